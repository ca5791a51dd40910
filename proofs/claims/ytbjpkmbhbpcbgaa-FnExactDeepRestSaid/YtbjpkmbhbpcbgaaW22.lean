/-
  Walks: greatest common divisors behind their checks.
-/
import Derived.Test.YtbjpkmbhbpcbgaaW21
namespace Go.Proofs.Ytbjpkmbhbpcbgaa
open Go.RowKit
set_option linter.unusedVariables false
set_option linter.unusedSimpArgs false
attribute [local irreducible] deg invN dS qS stp stpr quoP resP oneP bzD bzU bzW
/-- both answers: the greatest common divisor, its factors, and the code -/
def bezV (p : Int) (f g : Nat → Nat) : (Nat → Nat) × (Nat → Nat) × (Nat → Nat) × Int := if codeL p [f, g] = 0 then (if deg f < 0 ∧ deg g < 0 then (fun _ => 0, fun _ => 0, fun _ => 0, 5) else (bzD p.toNat f g, bzU p.toNat f g, bzW p.toNat f g, 0)) else (fun _ => 0, fun _ => 0, fun _ => 0, 1)
theorem bezV_ok {n : Nat} {f g : Nat → Nat} (h : codeL (n : Int) [f, g] = 0) (h2 : ¬ (deg f < 0 ∧ deg g < 0)) : bezV (n : Int) f g = (bzD n f g, bzU n f g, bzW n f g, 0) := by
  unfold bezV; rw [if_pos h, if_neg h2]; rfl
theorem bezV_zero {p : Int} {f g : Nat → Nat} (h : codeL p [f, g] = 0) (h2 : deg f < 0 ∧ deg g < 0) : bezV p f g = (fun _ => 0, fun _ => 0, fun _ => 0, 5) := by
  unfold bezV; rw [if_pos h, if_pos h2]
theorem bezV_bad {p : Int} {f g : Nat → Nat} (h : codeL p [f, g] = 1) : bezV p f g = (fun _ => 0, fun _ => 0, fun _ => 0, 1) := by
  unfold bezV; rw [if_neg (by rw [h]; decide)]
def twoV (p : Int) (f g : Nat → Nat) : Int := if codeL p [f, g] = 0 then (if deg f < 0 ∧ deg g < 0 then 5 else 0) else 1
theorem twoV_ok {p : Int} {f g : Nat → Nat} (h : codeL p [f, g] = 0) (h2 : ¬ (deg f < 0 ∧ deg g < 0)) : twoV p f g = 0 := by
  unfold twoV; rw [if_pos h, if_neg h2]
theorem twoV_zero {p : Int} {f g : Nat → Nat} (h : codeL p [f, g] = 0) (h2 : deg f < 0 ∧ deg g < 0) : twoV p f g = 5 := by
  unfold twoV; rw [if_pos h, if_pos h2]
theorem twoV_bad {p : Int} {f g : Nat → Nat} (h : codeL p [f, g] = 1) : twoV p f g = 1 := by
  unfold twoV; rw [if_neg (by rw [h]; decide)]
end Go.Proofs.Ytbjpkmbhbpcbgaa
