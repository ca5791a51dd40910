/-
  Walks: numbers of polynomials, and back.
-/
import Derived.Test.YtbjpkmbhbpcbgaaW6
namespace Go.Proofs.Ytbjpkmbhbpcbgaa
open Go.RowKit
set_option linter.unusedVariables false
/-- the number by m steps from above -/
def nuN (p : Nat) (f : Nat → Nat) : Nat → Nat
  | 0 => 0
  | m + 1 => nuN p f m * p + f (63 - m)
theorem nuN_z (p : Nat) (f : Nat → Nat) : nuN p f 0 = 0 := rfl
theorem nuN_succ (p : Nat) (f : Nat → Nat) (m : Nat) : nuN p f (m + 1) = nuN p f m * p + f (63 - m) := rfl
theorem nuN_mono (p : Nat) (f : Nat → Nat) (hp : 1 ≤ p) (m : Nat) : ∀ k, nuN p f m ≤ nuN p f (m + k)
  | 0 => Nat.le_refl _
  | k + 1 => by
    have := nuN_mono p f hp m k
    have h2 : nuN p f (m + (k + 1)) = nuN p f (m + k) * p + f (63 - (m + k)) := rfl
    have h3 : nuN p f (m + k) * 1 ≤ nuN p f (m + k) * p := Nat.mul_le_mul_left _ hp
    omega
theorem nuN_le (p : Nat) (f : Nat → Nat) (hp : 1 ≤ p) {m n : Nat} (h : m ≤ n) : nuN p f m ≤ nuN p f n := by
  have := nuN_mono p f hp m (n - m)
  rwa [show m + (n - m) = n by omega] at this
theorem nuN_zero (p : Nat) (f : Nat → Nat) : ∀ m, m ≤ 64 → (∀ j, j < 64 → 64 - m ≤ j → f j = 0) → nuN p f m = 0
  | 0, _, _ => rfl
  | m + 1, hm, h => by
    rw [nuN_succ, nuN_zero p f m (by omega) (fun j h1 h2 => h j h1 (by omega)), h (63 - m) (by omega) (by omega)]
    simp
theorem nuN_deg (p : Nat) (f : Nat → Nat) : ∃ m : Nat, m ≤ 64 ∧ deg f = 63 - (m : Int) ∧ nuN p f m = 0 := by
  rcases deg_spec f with ⟨e, hz⟩ | ⟨d, hd, e, hne, hz⟩
  · exact ⟨64, by omega, by rw [e]; rfl, nuN_zero p f 64 (by omega) (fun j hj _ => hz j hj)⟩
  · exact ⟨63 - d, by omega, by rw [e]; omega, nuN_zero p f _ (by omega) (fun j hj h2 => hz j (by omega) hj)⟩
attribute [irreducible] nuN
def numV (p : Int) (f : Nat → Nat) : Int × Int := if codeL p [f] = 0 then (if (nuN p.toNat f 64 : Int) ≤ 1000000000000 then ((nuN p.toNat f 64 : Int), 0) else (0, 3)) else (0, 1)
theorem mul_small {a p : Nat} (h : (a : Int) ≤ 1000000000000) (hp : p ≤ 7) : (a : Int) * (p : Int) ≤ 7000000000000 ∧ 0 ≤ (a : Int) * (p : Int) := by
  refine ⟨?_, Int.mul_nonneg (by omega) (by omega)⟩
  have : p = 0 ∨ p = 1 ∨ p = 2 ∨ p = 3 ∨ p = 4 ∨ p = 5 ∨ p = 6 ∨ p = 7 := by omega
  rcases this with h | h | h | h | h | h | h | h <;> subst h <;> omega
def numC (p : Nat) (f : Nat → Nat) : Int := if (nuN p f 64 : Int) ≤ 1000000000000 then (nuN p f 64 : Int) else 1000000000001
end Go.Proofs.Ytbjpkmbhbpcbgaa
