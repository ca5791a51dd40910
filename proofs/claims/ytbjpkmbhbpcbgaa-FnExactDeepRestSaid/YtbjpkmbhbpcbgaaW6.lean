/-
  Walks: values at a number.
-/
import Derived.Test.YtbjpkmbhbpcbgaaW5
namespace Go.Proofs.Ytbjpkmbhbpcbgaa
open Go.RowKit
set_option linter.unusedVariables false
theorem degB_spec (f : Nat → Nat) : ∀ k, (degB f k = -1 ∧ ∀ j, j < k → f j = 0) ∨ ∃ d, d < k ∧ degB f k = (d : Int) ∧ f d ≠ 0 ∧ ∀ j, d < j → j < k → f j = 0
  | 0 => .inl ⟨rfl, fun j hj => by omega⟩
  | k + 1 => by
    by_cases h : f k = 0
    · rw [degB_step h]
      rcases degB_spec f k with ⟨e, hz⟩ | ⟨d, hd, e, hne, hz⟩
      · refine .inl ⟨e, fun j hj => ?_⟩
        by_cases hj2 : j = k
        · rw [hj2]; exact h
        · exact hz j (by omega)
      · refine .inr ⟨d, by omega, e, hne, fun j h1 h2 => ?_⟩
        by_cases hj2 : j = k
        · rw [hj2]; exact h
        · exact hz j h1 (by omega)
    · exact .inr ⟨k, by omega, degB_hit h, h, fun j h1 h2 => by omega⟩
theorem deg_spec (f : Nat → Nat) : (deg f = -1 ∧ ∀ j, j < 64 → f j = 0) ∨ ∃ d : Nat, d < 64 ∧ deg f = (d : Int) ∧ f d ≠ 0 ∧ ∀ j : Nat, d < j → j < 64 → f j = 0 := degB_spec f 64
/-- the value by m steps from above -/
def hrN (p x : Nat) (f : Nat → Nat) : Nat → Nat
  | 0 => 0
  | m + 1 => (hrN p x f m * x + f (63 - m)) % p
theorem hrN_succ (p x : Nat) (f : Nat → Nat) (m : Nat) : hrN p x f (m + 1) = (hrN p x f m * x + f (63 - m)) % p := rfl
theorem hrN_z (p x : Nat) (f : Nat → Nat) : hrN p x f 0 = 0 := rfl
theorem hrN_lt (p x : Nat) (f : Nat → Nat) (m : Nat) (hp : 0 < p) : hrN p x f m < p := by
  cases m with
  | zero => exact hp
  | succ m => exact Nat.mod_lt _ hp
theorem hrN_zero (p x : Nat) (f : Nat → Nat) : ∀ m, m ≤ 64 → (∀ j, j < 64 → 64 - m ≤ j → f j = 0) → hrN p x f m = 0
  | 0, _, _ => rfl
  | m + 1, hm, h => by
    rw [hrN_succ, hrN_zero p x f m (by omega) (fun j h1 h2 => h j h1 (by omega)), h (63 - m) (by omega) (by omega)]
    simp
theorem hrN_deg (p x : Nat) (f : Nat → Nat) : ∃ m : Nat, m ≤ 64 ∧ deg f = 63 - (m : Int) ∧ hrN p x f m = 0 := by
  rcases deg_spec f with ⟨e, hz⟩ | ⟨d, hd, e, hne, hz⟩
  · exact ⟨64, by omega, by rw [e]; rfl, hrN_zero p x f 64 (by omega) (fun j hj _ => hz j hj)⟩
  · exact ⟨63 - d, by omega, by rw [e]; omega, hrN_zero p x f _ (by omega) (fun j hj h2 => hz j (by omega) hj)⟩
def valV (p : Int) (f : Nat → Nat) (x : Int) : Int × Int := if codeL p [f] = 0 then (if 0 ≤ x ∧ x < p then ((hrN p.toNat x.toNat f 64 : Int), 0) else (0, 2)) else (0, 1)
attribute [irreducible] hrN
set_option maxHeartbeats 400000 in
theorem l01In_any (n l h : Int) (w : World) : Calls Try.prog 74 #[.int .i64 n, .int .i64 l, .int .i64 h] w fun e w' => e = .returned (.bool (decide (l ≤ n ∧ n ≤ h))) ∧ w = w' := by
  by_cases h1 : l ≤ n
  · by_cases h2 : n ≤ h
    · go_enter Try.func74, Try.ntmps74
      go_wp2
      go_ret
      exact ⟨ret_bool (by simp [h1, h2]), rfl⟩
    · go_enter Try.func74, Try.ntmps74
      go_wp2
      go_ret
      exact ⟨ret_bool (by simp [h2]), rfl⟩
  · go_enter Try.func74, Try.ntmps74
    go_wp2
    go_ret
    exact ⟨ret_bool (by simp; omega), rfl⟩
theorem l01In_yes (n l h : Int) (h1 : l ≤ n ∧ n ≤ h) (w : World) : Calls Try.prog 74 #[.int .i64 n, .int .i64 l, .int .i64 h] w fun e w' => e = .returned (.bool true) ∧ w = w' :=
  (l01In_any n l h w).mono fun _ _ ⟨a, b⟩ => ⟨by rw [a, decide_eq_true h1], b⟩
theorem l01In_no (n l h : Int) (h1 : ¬ (l ≤ n ∧ n ≤ h)) (w : World) : Calls Try.prog 74 #[.int .i64 n, .int .i64 l, .int .i64 h] w fun e w' => e = .returned (.bool false) ∧ w = w' :=
  (l01In_any n l h w).mono fun _ _ ⟨a, b⟩ => ⟨by rw [a, decide_eq_false h1], b⟩
end Go.Proofs.Ytbjpkmbhbpcbgaa
