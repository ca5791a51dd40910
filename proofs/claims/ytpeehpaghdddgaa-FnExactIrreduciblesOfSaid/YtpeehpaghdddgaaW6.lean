/-
  Walks: values at a number.
-/
import Derived.Test.YtpeehpaghdddgaaW5
namespace Go.Proofs.Ytpeehpaghdddgaa
open Go.RowKit
set_option linter.unusedVariables false
theorem degB_spec (f : Nat → Nat) : ∀ k, (degB f k = -1 ∧ ∀ j, j < k → f j = 0) ∨ ∃ d, d < k ∧ degB f k = (d : Int) ∧ f d ≠ 0 ∧ ∀ j, d < j → j < k → f j = 0
  | 0 => .inl ⟨rfl, fun j hj => by omega⟩
  | k + 1 => by
    by_cases h : f k = 0
    · rw [degB_step h]
      rcases degB_spec f k with ⟨e, hz⟩ | ⟨d, hd, e, hne, hz⟩
      · refine .inl ⟨e, fun j hj => ?_⟩
        by_cases hj2 : j = k
        · rw [hj2]; exact h
        · exact hz j (by omega)
      · refine .inr ⟨d, by omega, e, hne, fun j h1 h2 => ?_⟩
        by_cases hj2 : j = k
        · rw [hj2]; exact h
        · exact hz j h1 (by omega)
    · exact .inr ⟨k, by omega, degB_hit h, h, fun j h1 h2 => by omega⟩
theorem deg_spec (f : Nat → Nat) : (deg f = -1 ∧ ∀ j, j < 64 → f j = 0) ∨ ∃ d : Nat, d < 64 ∧ deg f = (d : Int) ∧ f d ≠ 0 ∧ ∀ j : Nat, d < j → j < 64 → f j = 0 := degB_spec f 64
/-- the value by m steps from above -/
def hrN (p x : Nat) (f : Nat → Nat) : Nat → Nat
  | 0 => 0
  | m + 1 => (hrN p x f m * x + f (63 - m)) % p
theorem hrN_succ (p x : Nat) (f : Nat → Nat) (m : Nat) : hrN p x f (m + 1) = (hrN p x f m * x + f (63 - m)) % p := rfl
theorem hrN_z (p x : Nat) (f : Nat → Nat) : hrN p x f 0 = 0 := rfl
theorem hrN_lt (p x : Nat) (f : Nat → Nat) (m : Nat) (hp : 0 < p) : hrN p x f m < p := by
  cases m with
  | zero => exact hp
  | succ m => exact Nat.mod_lt _ hp
theorem hrN_zero (p x : Nat) (f : Nat → Nat) : ∀ m, m ≤ 64 → (∀ j, j < 64 → 64 - m ≤ j → f j = 0) → hrN p x f m = 0
  | 0, _, _ => rfl
  | m + 1, hm, h => by
    rw [hrN_succ, hrN_zero p x f m (by omega) (fun j h1 h2 => h j h1 (by omega)), h (63 - m) (by omega) (by omega)]
    simp
theorem hrN_deg (p x : Nat) (f : Nat → Nat) : ∃ m : Nat, m ≤ 64 ∧ deg f = 63 - (m : Int) ∧ hrN p x f m = 0 := by
  rcases deg_spec f with ⟨e, hz⟩ | ⟨d, hd, e, hne, hz⟩
  · exact ⟨64, by omega, by rw [e]; rfl, hrN_zero p x f 64 (by omega) (fun j hj _ => hz j hj)⟩
  · exact ⟨63 - d, by omega, by rw [e]; omega, hrN_zero p x f _ (by omega) (fun j hj h2 => hz j (by omega) hj)⟩
def valV (p : Int) (f : Nat → Nat) (x : Int) : Int × Int := if codeL p [f] = 0 then (if 0 ≤ x ∧ x < p then ((hrN p.toNat x.toNat f 64 : Int), 0) else (0, 2)) else (0, 1)
attribute [irreducible] hrN
set_option maxHeartbeats 400000 in
theorem l01In_any (n l h : Int) (w : World) : Calls Try.prog 81 #[.int .i64 n, .int .i64 l, .int .i64 h] w fun e w' => e = .returned (.bool (decide (l ≤ n ∧ n ≤ h))) ∧ w = w' := by
  by_cases h1 : l ≤ n
  · by_cases h2 : n ≤ h
    · go_enter Try.func81, Try.ntmps81
      go_wp2
      go_ret
      exact ⟨ret_bool (by simp [h1, h2]), rfl⟩
    · go_enter Try.func81, Try.ntmps81
      go_wp2
      go_ret
      exact ⟨ret_bool (by simp [h2]), rfl⟩
  · go_enter Try.func81, Try.ntmps81
    go_wp2
    go_ret
    exact ⟨ret_bool (by simp; omega), rfl⟩
theorem l01In_yes (n l h : Int) (h1 : l ≤ n ∧ n ≤ h) (w : World) : Calls Try.prog 81 #[.int .i64 n, .int .i64 l, .int .i64 h] w fun e w' => e = .returned (.bool true) ∧ w = w' :=
  (l01In_any n l h w).mono fun _ _ ⟨a, b⟩ => ⟨by rw [a, decide_eq_true h1], b⟩
theorem l01In_no (n l h : Int) (h1 : ¬ (l ≤ n ∧ n ≤ h)) (w : World) : Calls Try.prog 81 #[.int .i64 n, .int .i64 l, .int .i64 h] w fun e w' => e = .returned (.bool false) ∧ w = w' :=
  (l01In_any n l h w).mono fun _ _ ⟨a, b⟩ => ⟨by rw [a, decide_eq_false h1], b⟩
set_option maxHeartbeats 800000 in
theorem l01Point_any (p : Nat) (f : Nat → Nat) (x : Nat) (w : World) (hp1 : 2 ≤ p) (hp2 : p ≤ 7) (hx : x < p) (hf : ∀ i, i < 64 → f i < p) :
    Calls Try.prog 78 #[.int .i64 (p : Int), .agg (bcells 64 f), .int .i64 (x : Int)] w fun e w' => e = .returned (.int .i64 (hrN p x f 64 : Int)) ∧ Below w.heap.size w w' := by
  have HF := Lib.hid hf; clear hf
  go_enter Try.func78, Try.ntmps78
  go_wp2_with fail
  go_loopw [7, 8] (fun v i wr => ∃ m : Nat, m ≤ 64 ∧ i = .int .i64 (63 - (m : Int)) ∧ v = .int .i64 (hrN p x f m : Int) ∧ Below w.heap.size w wr ∧ Blk wr w.heap.size 64 26 f) (fun _ i _ => (intOf i + 1).toNat)
  case atStart => exact ⟨0, by omega, by rfl, by rw [hrN_z]; rfl, (Below.refl _ _).alloc (Nat.le_refl _) _, Blk.new _ _ _ _⟩
  case round =>
    obtain ⟨m, hm, rfl, rfl, hb, hbb⟩ := hrel
    by_cases hlt : m < 64
    · have hc := hbb.cell (i := 63 - m) (by omega)
      have e1 : ((63 - m : Nat) : Int) = 63 - (m : Int) := by omega
      have b1 : f (63 - m) < p := HF.out (63 - m) (by omega)
      have b2 := hrN_lt p x f m (by omega)
      obtain ⟨m1, m2⟩ := small_mul (hrN p x f m : Int) x (by omega) (by omega) (by omega)
      have m3 : 0 ≤ (hrN p x f m : Int) * (x : Int) := Int.mul_nonneg (by omega) (by omega)
      have ES := Lib.hid (hrN_succ p x f m)
      have E1 := Lib.hid e1
      have hg : (0 : Int) ≤ 63 - (m : Int) := by omega
      rw [← E1.out]
      clear e1
      go_wp2_with fail
      go_roundw
      case rel =>
        refine ⟨m + 1, by omega, by rw [E1.out]; go_num, ?_, hb, hbb⟩
        rw [ES.out]
        push_cast
        try rfl
      case measure => simp [intOf] <;> omega
    · have e : m = 64 := by omega
      subst e
      go_wp2_with fail
      go_ret
      exact ⟨rfl, hb⟩
set_option maxHeartbeats 800000 in
theorem valueAt_any (p : Nat) (f : Nat → Nat) (x : Nat) (w : World) (hp1 : 2 ≤ p) (hp2 : p ≤ 7) (hx : x < p) (hf : ∀ i, i < 64 → f i < p) :
    Calls Try.prog 80 #[.int .i64 (p : Int), .agg (bcells 64 f), .int .i64 (x : Int)] w fun e w' => e = .returned (.int .i64 (hrN p x f 64 : Int)) ∧ Below w.heap.size w w' := by
  have HF := Lib.hid hf; clear hf
  obtain ⟨m0, hm0, hd, hz⟩ := hrN_deg p x f
  go_enter Try.func80, Try.ntmps80
  have HD := Lib.hid hd; clear hd
  have HZ := Lib.hid hz; clear hz
  have hbn := Blk.new w 64 26 f
  go_wp2_with (first | refine wpList_load_blk rfl 26 _ rfl _ rfl 64 26 _ (hbn) 5 Try.underlying26 Try.size26 ?_ | (go_at_call 84; refine (degree_any f _).mono ?_; rintro e w1 ⟨rfl, hw⟩))
  go_loopw [7, 8] (fun v i wr => ∃ m : Nat, m ≤ 64 ∧ i = .int .i64 (63 - (m : Int)) ∧ v = .int .i64 (hrN p x f m : Int) ∧ Below w.heap.size w wr ∧ Blk wr w.heap.size 64 26 f) (fun _ i _ => (intOf i + 1).toNat)
  case atStart => exact ⟨m0, hm0, by rw [HD.out], by rw [HZ.out]; rfl, (below_alloc' _ _).trans (hw.mono (by simp)), hbn.below hw hbn.lt⟩
  case round =>
    obtain ⟨m, hm, rfl, rfl, hb, hbb⟩ := hrel
    by_cases hlt : m < 64
    · have hc := hbb.cell (i := 63 - m) (by omega)
      have e1 : ((63 - m : Nat) : Int) = 63 - (m : Int) := by omega
      have b1 : f (63 - m) < p := HF.out (63 - m) (by omega)
      have b2 := hrN_lt p x f m (by omega)
      obtain ⟨m1, m2⟩ := small_mul (hrN p x f m : Int) x (by omega) (by omega) (by omega)
      have m3 : 0 ≤ (hrN p x f m : Int) * (x : Int) := Int.mul_nonneg (by omega) (by omega)
      have ES := Lib.hid (hrN_succ p x f m)
      have E1 := Lib.hid e1
      have hg : (0 : Int) ≤ 63 - (m : Int) := by omega
      rw [← E1.out]
      clear e1
      go_wp2_with fail
      go_roundw
      case rel =>
        refine ⟨m + 1, by omega, by rw [E1.out]; go_num, ?_, hb, hbb⟩
        rw [ES.out]
        push_cast
        try rfl
      case measure => simp [intOf] <;> omega
    · have e : m = 64 := by omega
      subst e
      go_wp2_with fail
      go_ret
      exact ⟨rfl, hb⟩
end Go.Proofs.Ytpeehpaghdddgaa
