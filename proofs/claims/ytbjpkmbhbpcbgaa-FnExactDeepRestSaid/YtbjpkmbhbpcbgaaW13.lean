/-
  Walks: the inverse of a number.
-/
import Derived.Test.YtbjpkmbhbpcbgaaW12
import Derived.Test.YtbjpkmbhbpcbgaaDv
namespace Go.Proofs.Ytbjpkmbhbpcbgaa
open Go.RowKit
set_option linter.unusedVariables false
theorem invF {p c : Nat} (hp : p = 2 ∨ p = 3 ∨ p = 5 ∨ p = 7) (h1 : 0 < c) (h2 : c < p) : 1 ≤ invN p c ∧ invN p c < p ∧ invN p c * c % p = 1 ∧ ∀ k, 1 ≤ k → k < invN p c → k * c % p ≠ 1 := by
  have hc : c = 1 ∨ c = 2 ∨ c = 3 ∨ c = 4 ∨ c = 5 ∨ c = 6 := by omega
  suffices h : 1 ≤ invN p c ∧ invN p c < p ∧ invN p c * c % p = 1 ∧ ∀ k, k < 7 → (k < 1 ∨ invN p c ≤ k ∨ k * c % p ≠ 1) by
    obtain ⟨a, b, d, e⟩ := h
    refine ⟨a, b, d, fun k k1 k2 => ?_⟩
    rcases e k (by omega) with h | h | h
    · omega
    · omega
    · exact h
  rcases hp with rfl | rfl | rfl | rfl <;> rcases hc with rfl | rfl | rfl | rfl | rfl | rfl <;> first | omega | decide
attribute [local irreducible] invN
set_option maxHeartbeats 800000 in
theorem inverseNumber_any (p c : Nat) (w : World) (hp : p = 2 ∨ p = 3 ∨ p = 5 ∨ p = 7) (hc1 : 0 < c) (hc2 : c < p) :
    Calls Try.prog 193 #[.int .i64 (p : Int), .int .u8 (c : Int)] w fun e w' => e = .returned (.int .u8 (invN p c : Int)) ∧ w = w' := by
  obtain ⟨f1, f2, f3, f4⟩ := invF hp hc1 hc2
  obtain ⟨q, hq⟩ : ∃ q, q = invN p c := ⟨_, rfl⟩
  rw [← hq] at f1 f2 f3 f4 ⊢
  clear hq
  have p2 : 2 ≤ p := by omega
  have p7 : p ≤ 7 := by omega
  go_enter Try.func193, Try.ntmps193
  go_wp2_with fail
  go_loopw [5] (fun i wr => ∃ k : Nat, 1 ≤ k ∧ k ≤ q ∧ i = .int .u8 (k : Int) ∧ wr = w) (fun i _ => 8 - (intOf i).toNat)
  case atStart => exact ⟨1, by omega, by omega, rfl, rfl⟩
  case round =>
    obtain ⟨k, hk1, hk, rfl, rfl⟩ := hrel
    have hmul : (k : Int) * (c : Int) ≤ 36 ∧ 0 ≤ (k : Int) * (c : Int) := small_nat_mul p7 (by omega) hc2
    obtain ⟨m2, m3⟩ := hmul
    have n0 : 0 ≤ (k : Int) * (c : Int) % (p : Int) := Int.emod_nonneg _ (by omega)
    have n1 : (k : Int) * (c : Int) % (p : Int) < (p : Int) := Int.emod_lt_of_pos _ (by omega)
    have he : (k : Int) * (c : Int) % (p : Int) = ((k * c % p : Nat) : Int) := by push_cast; rfl
    have hm : (k : Int) * (c : Int) % 256 % (p : Int) = (k : Int) * (c : Int) % (p : Int) := by rw [Int.emod_eq_of_lt m3 (by omega)]
    by_cases hlt : k < q
    · have hne : (k : Int) * (c : Int) % (p : Int) ≠ 1 := by have := f4 k hk1 hlt; omega
      clear he
      go_wp2_with fail
      · refine ⟨⟨k + 1, by omega, by omega, by push_cast; rfl, trivial⟩, ?_⟩
        simp only [intOf]
        omega
    · have : k = q := by omega
      subst this
      have hne : (k : Int) * (c : Int) % (p : Int) = 1 := by omega
      clear he
      go_wp2_with fail
      go_ret
      exact ⟨rfl, rfl⟩
set_option maxHeartbeats 800000 in
theorem l01Inverse_any (p c : Nat) (w : World) (hp : p = 2 ∨ p = 3 ∨ p = 5 ∨ p = 7) (hc1 : 0 < c) (hc2 : c < p) :
    Calls Try.prog 171 #[.int .i64 (p : Int), .int .u8 (c : Int)] w fun e w' => e = .returned (.int .u8 (invN p c : Int)) ∧ w = w' := by
  obtain ⟨f1, f2, f3, f4⟩ := invF hp hc1 hc2
  obtain ⟨q, hq⟩ : ∃ q, q = invN p c := ⟨_, rfl⟩
  rw [← hq] at f1 f2 f3 f4 ⊢
  clear hq
  have p2 : 2 ≤ p := by omega
  have p7 : p ≤ 7 := by omega
  go_enter Try.func171, Try.ntmps171
  go_wp2_with fail
  go_loopw [5] (fun i wr => ∃ k : Nat, 1 ≤ k ∧ k ≤ q ∧ i = .int .i64 (k : Int) ∧ wr = w) (fun i _ => 8 - (intOf i).toNat)
  case atStart => exact ⟨1, by omega, by omega, rfl, rfl⟩
  case round =>
    obtain ⟨k, hk1, hk, rfl, rfl⟩ := hrel
    have hmul : (k : Int) * (c : Int) ≤ 36 ∧ 0 ≤ (k : Int) * (c : Int) := small_nat_mul p7 (by omega) hc2
    obtain ⟨m2, m3⟩ := hmul
    have n0 : 0 ≤ (k : Int) * (c : Int) % (p : Int) := Int.emod_nonneg _ (by omega)
    have n1 : (k : Int) * (c : Int) % (p : Int) < (p : Int) := Int.emod_lt_of_pos _ (by omega)
    have he : (k : Int) * (c : Int) % (p : Int) = ((k * c % p : Nat) : Int) := by push_cast; rfl
    by_cases hlt : k < q
    · have hne : (k : Int) * (c : Int) % (p : Int) ≠ 1 := by have := f4 k hk1 hlt; omega
      clear he
      go_wp2_with fail
      refine ⟨⟨k + 1, by omega, by omega, by push_cast; rfl, trivial⟩, ?_⟩
      simp only [intOf]
      omega
    · have : k = q := by omega
      subst this
      have hne : (k : Int) * (c : Int) % (p : Int) = 1 := by omega
      clear he
      go_wp2_with fail
      go_ret
      exact ⟨rfl, rfl⟩
end Go.Proofs.Ytbjpkmbhbpcbgaa
