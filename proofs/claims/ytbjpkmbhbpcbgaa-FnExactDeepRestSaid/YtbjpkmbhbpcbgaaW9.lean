/-
  Walks: derivatives.
-/
import Derived.Test.YtbjpkmbhbpcbgaaW8
namespace Go.Proofs.Ytbjpkmbhbpcbgaa
open Go.RowKit
set_option linter.unusedVariables false
/-- the derivative's coefficients -/
def dvN (p : Nat) (f : Nat → Nat) : Nat → Nat := fun i => if i < 63 then (i + 1) % p * f (i + 1) % p else 0
def dvV (p : Int) (f : Nat → Nat) : (Nat → Nat) × Int := if codeL p [f] = 0 then (dvN p.toNat f, 0) else (fun _ => 0, 1)
theorem small_nat_mul {a b p : Nat} (hp : p ≤ 7) (ha : a < p) (hb : b < p) : (a : Int) * (b : Int) ≤ 36 ∧ 0 ≤ (a : Int) * (b : Int) := by
  refine ⟨?_, Int.mul_nonneg (by omega) (by omega)⟩
  have : a * b ≤ 6 * 6 := Nat.mul_le_mul (by omega) (by omega)
  have h : ((a * b : Nat) : Int) ≤ 36 := by omega
  rwa [Int.natCast_mul] at h
end Go.Proofs.Ytbjpkmbhbpcbgaa
