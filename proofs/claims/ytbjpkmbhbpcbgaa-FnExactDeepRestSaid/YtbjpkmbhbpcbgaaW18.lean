/-
  Walks: division behind its checks.
-/
import Derived.Test.YtbjpkmbhbpcbgaaW16
import Derived.Test.YtbjpkmbhbpcbgaaW17
import Derived.Test.YtbjpkmbhbpcbgaaEqb
namespace Go.Proofs.Ytbjpkmbhbpcbgaa
open Go.RowKit
set_option linter.unusedVariables false
set_option linter.unusedSimpArgs false
attribute [local irreducible] deg invN dS qS stp stpr quoP resP
theorem Try.noGuard23 : Try.prog.eqGuardType Try.prog.depth 23 = false := by kernel_rfl
theorem eqN_zero (f : Nat → Nat) : eqN 64 f (fun _ => 0) = decide (deg f < 0) := by
  by_cases h : deg f < 0
  · rw [eqN_iff.2 (deg_neg_iff.1 h)]; simp [h]
  · have : eqN 64 f (fun _ => 0) = false := by
      cases he : eqN 64 f (fun _ => 0) with
      | false => rfl
      | true => exact absurd (deg_neg_iff.2 (eqN_iff.1 he)) h
    rw [this]; simp [h]
theorem prime_of {n : Nat} {fs : List (Nat → Nat)} (h : codeL (n : Int) fs = 0) : n = 2 ∨ n = 3 ∨ n = 5 ∨ n = 7 := by
  rcases okP_cases (codeL_zero h).1 with h | h | h | h <;> omega
def dvdV (p : Int) (f g : Nat → Nat) : (Nat → Nat) × (Nat → Nat) × Int := if codeL p [f, g] = 0 then (if deg g < 0 then (fun _ => 0, fun _ => 0, 5) else (quoP p.toNat f g, resP p.toNat f g, 0)) else (fun _ => 0, fun _ => 0, 1)
theorem dvdV_ok {n : Nat} {f g : Nat → Nat} (h : codeL (n : Int) [f, g] = 0) (h2 : ¬ deg g < 0) : dvdV (n : Int) f g = (quoP n f g, resP n f g, 0) := by
  unfold dvdV; rw [if_pos h, if_neg h2]; rfl
theorem dvdV_zero {n : Nat} {f g : Nat → Nat} (h : codeL (n : Int) [f, g] = 0) (h2 : deg g < 0) : dvdV (n : Int) f g = (fun _ => 0, fun _ => 0, 5) := by
  unfold dvdV; rw [if_pos h, if_pos h2]
theorem dvdV_bad {p : Int} {f g : Nat → Nat} (h : codeL p [f, g] = 1) : dvdV p f g = (fun _ => 0, fun _ => 0, 1) := by
  unfold dvdV; rw [if_neg (by rw [h]; decide)]
end Go.Proofs.Ytbjpkmbhbpcbgaa
