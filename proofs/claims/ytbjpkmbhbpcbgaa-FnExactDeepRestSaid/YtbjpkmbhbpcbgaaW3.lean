/-
  Walks: copies, comparisons, sums and differences of arrays.
-/
import Derived.Test.YtbjpkmbhbpcbgaaW2
namespace Go.Proofs.Ytbjpkmbhbpcbgaa
open Go.RowKit
set_option linter.unusedVariables false

theorem zeroBlk (w : World) : Blk (w.alloc (.cells #[.int .u8 0, .int .u8 0, .int .u8 0, .int .u8 0, .int .u8 0, .int .u8 0, .int .u8 0, .int .u8 0, .int .u8 0, .int .u8 0, .int .u8 0, .int .u8 0, .int .u8 0, .int .u8 0, .int .u8 0, .int .u8 0, .int .u8 0, .int .u8 0, .int .u8 0, .int .u8 0, .int .u8 0, .int .u8 0, .int .u8 0, .int .u8 0, .int .u8 0, .int .u8 0, .int .u8 0, .int .u8 0, .int .u8 0, .int .u8 0, .int .u8 0, .int .u8 0, .int .u8 0, .int .u8 0, .int .u8 0, .int .u8 0, .int .u8 0, .int .u8 0, .int .u8 0, .int .u8 0, .int .u8 0, .int .u8 0, .int .u8 0, .int .u8 0, .int .u8 0, .int .u8 0, .int .u8 0, .int .u8 0, .int .u8 0, .int .u8 0, .int .u8 0, .int .u8 0, .int .u8 0, .int .u8 0, .int .u8 0, .int .u8 0, .int .u8 0, .int .u8 0, .int .u8 0, .int .u8 0, .int .u8 0, .int .u8 0, .int .u8 0, .int .u8 0] 23)) w.heap.size 64 23 (fun _ => 0) := by
  rw [← zero64]; exact Blk.new _ _ _ _

set_option maxRecDepth 100000 in
set_option maxHeartbeats 400000 in
theorem toPoly_any (f : Nat → Nat) (hf : byte f) (w : World) : Calls Try.prog 24 #[.agg (bcells 64 f)] w fun e w' => e = .returned (.agg (bcells 64 f)) ∧ Below w.heap.size w w' := by
  go_enter Try.func24, Try.ntmps24
  go_wp2_with fail
  rw [← zero64]
  go_loopw [4] (fun i wr => ∃ k : Nat, k ≤ 64 ∧ i = .int .i64 (k : Int) ∧ Below w.heap.size w wr ∧ Blk wr w.heap.size 64 22 f ∧ Blk wr (w.heap.size + 1) 64 23 (fun _ => 0) ∧ Blk wr (w.heap.size + 1 + 1) 64 23 (fun i => if i < k then f i else 0)) (fun i _ => 64 - (intOf i).toNat)
  case atStart =>
    refine ⟨0, by omega, rfl, (((Below.refl _ _).alloc (Nat.le_refl _) _).alloc (by simp) _).alloc (by simp; omega) _, ?_, ?_, ?_⟩
    · exact (((Blk.new w _ _ _).alloc _).alloc _)
    · have := ((Blk.new (w.alloc (.cells (bcells 64 f) 22)) 64 23 (fun _ => 0)).alloc (.cells (bcells 64 fun _ => 0) 23)); simpa using this
    · have := (Blk.new ((w.alloc (.cells (bcells 64 f) 22)).alloc (.cells (bcells 64 fun _ => 0) 23)) 64 23 (fun _ => 0)); simpa using this
  case round =>
    obtain ⟨k, hk, rfl, hb, h0, h1, h2⟩ := hrel
    by_cases hlt : k < 64
    · have c4 := h0.cell hlt
      have c5 := h2.cell hlt
      have z4 := h2.frozen k
      have b1 := byteOk f hf k
      go_wp2_with fail
      go_roundw
      case rel =>
        refine ⟨k + 1, by omega, by go_num, hb.setCell (by simp; omega) _, ?_, ?_, ?_⟩
        · exact h0.setOther (by simp; omega)
        · exact h1.setOther (by simp)
        · exact (h2.set (v := f k) rfl).congr (fun i _ => upd_lt (a := f) rfl i)
      case measure => simp [intOf]; omega
    · have e : k = 64 := by omega
      subst e
      go_wp2_with (first | refine wpList_load_blk rfl 23 _ rfl _ rfl 64 23 _ (h2) 5 Try.underlying23 Try.size23 ?_ | refine wpList_store_blk rfl 23 _ _ rfl _ 64 ((fun i => if i < 64 then f i else 0)) rfl rfl 23 _ (h1) Try.size23 ?_)
      refine bodyPost_ret (results_blk rfl _ _ _ 64 23 5 _ rfl (h1.row _) Try.underlying23 Try.size23) rfl ⟨?_, ?_⟩
      · rw [bcells_congr (g := f)]
        intro i hi; simp [hi]
      · exact below_setRow hb (by omega) _

set_option maxRecDepth 100000 in
set_option maxHeartbeats 400000 in
theorem eqPoly_same (f g : Nat → Nat) (hfg : ∀ i, i < 64 → f i = g i) (w : World) : Calls Try.prog 26 #[.agg (bcells 64 f), .agg (bcells 64 g)] w fun e w' => e = .returned (.bool true) ∧ Below w.heap.size w w' := by
  rw [bcells_congr (fun i hi => (hfg i hi).symm)]
  go_enter Try.func26, Try.ntmps26
  go_wp2_with fail
  clear hfg
  go_loopw [5] (fun i wr => ∃ k : Nat, k ≤ 64 ∧ i = .int .i64 (k : Int) ∧ Below w.heap.size w wr ∧ Blk wr w.heap.size 64 23 f ∧ Blk wr (w.heap.size + 1) 64 23 f) (fun i _ => 64 - (intOf i).toNat)
  case atStart =>
    refine ⟨0, by omega, rfl, ((Below.refl _ _).alloc (Nat.le_refl _) _).alloc (by simp) _, (Blk.new w _ _ _).alloc _, ?_⟩
    have := Blk.new (w.alloc (.cells (bcells 64 f) 23)) 64 23 f; simpa using this
  case round =>
    obtain ⟨k, hk, rfl, hb, h0, h1⟩ := hrel
    by_cases hlt : k < 64
    · have c4 := h0.cell hlt
      have c5 := h1.cell hlt
      have hk0 : (0 : Int) ≤ (k : Int) := by omega
      have hk1 : (k : Int) < 64 := by omega
      have hne : ((f k : Int) != (f k : Int)) = false := by simp
      go_wp2_with fail
      go_quiet (fail)
      go_wp2_with fail
      go_roundw
      case rel => exact ⟨k + 1, by omega, by go_num, below_drewN' hb _, h0.drewN _, h1.drewN _⟩
      case measure => simp [intOf]; omega
    · go_wp2_with fail
      go_ret
      exact ⟨rfl, hb⟩

set_option maxRecDepth 100000 in
set_option maxHeartbeats 400000 in
theorem sum_any (p : Nat) (f g : Nat → Nat) (w : World) (hp1 : 2 ≤ p) (hp2 : p ≤ 7) (hf : ∀ i, i < 64 → f i < p) (hg : ∀ i, i < 64 → g i < p) :
    Calls Try.prog 162 #[.int .i64 (p : Int), .agg (bcells 64 f), .agg (bcells 64 g)] w fun e w' => e = .returned (.agg (bcells 64 fun i => (f i + g i) % p)) ∧ Below w.heap.size w w' := by
  go_enter Try.func162, Try.ntmps162
  go_wp2_with fail
  have HF := Lib.hid hf; clear hf
  have HG := Lib.hid hg; clear hg
  rw [← zero64]
  go_loopw [8] (fun i wr => ∃ k : Nat, k ≤ 64 ∧ i = .int .i64 (k : Int) ∧ Below w.heap.size w wr ∧ Blk wr w.heap.size 64 23 (fun i => if i < k then (f i + g i) % p else f i) ∧ Blk wr (w.heap.size + 1) 64 23 g ∧ Blk wr (w.heap.size + 1 + 1) 64 23 (fun _ => 0)) (fun i _ => 64 - (intOf i).toNat)
  case atStart =>
    refine ⟨0, by omega, rfl, (((Below.refl _ _).alloc (Nat.le_refl _) _).alloc (by simp) _).alloc (by simp; omega) _, ?_, ?_, ?_⟩
    · exact (((Blk.new w _ _ _).alloc _).alloc _).congr (by simp)
    · have := ((Blk.new (w.alloc (.cells (bcells 64 f) 23)) 64 23 g).alloc (.cells (bcells 64 fun _ => 0) 23)); simpa using this
    · have := (Blk.new ((w.alloc (.cells (bcells 64 f) 23)).alloc (.cells (bcells 64 g) 23)) 64 23 (fun _ => 0)); simpa using this
  case round =>
    obtain ⟨k, hk, rfl, hb, h0, h1, h2⟩ := hrel
    by_cases hlt : k < 64
    · have c4 : wr.cell? ⟨w.heap.size, k, none⟩ = some (.int .u8 (f k : Int)) := by rw [h0.cell hlt]; simp
      have c5 := h1.cell hlt
      have z4 := h0.frozen k
      have b1 : f k < p := HF.out k hlt
      have b2 : g k < p := HG.out k hlt
      go_wp2_with fail
      go_region
      go_wp2_with fail
      go_roundw
      case rel =>
        refine ⟨k + 1, by omega, by go_num, (hb.setCell (by simp) _).drew, ?_, ?_, ?_⟩
        · exact ((h0.set (v := (f k + g k) % p) (by push_cast; rfl)).congr (fun i _ => upd_lt (a := fun i => (f i + g i) % p) rfl i)).drew
        · exact (h1.setOther (by simp)).drew
        · exact (h2.setOther (by simp; omega)).drew
      case measure => simp [intOf]; omega
    · have e : k = 64 := by omega
      subst e
      go_wp2_with (first | refine wpList_load_blk rfl 23 _ rfl _ rfl 64 23 _ (h0) 5 Try.underlying23 Try.size23 ?_ | refine wpList_store_blk rfl 23 _ _ rfl _ 64 ((fun i => if i < 64 then (f i + g i) % p else f i)) rfl rfl 23 _ (h2) Try.size23 ?_)
      refine bodyPost_ret (results_blk rfl _ _ _ 64 23 5 _ rfl (h2.row _) Try.underlying23 Try.size23) rfl ⟨?_, ?_⟩
      · rw [bcells_congr (g := fun i => (f i + g i) % p)]
        intro i hi; simp [hi]
      · exact below_setRow hb (by omega) _

set_option maxRecDepth 100000 in
set_option maxHeartbeats 400000 in
theorem difference_any (p : Nat) (f g : Nat → Nat) (w : World) (hp1 : 2 ≤ p) (hp2 : p ≤ 7) (hf : ∀ i, i < 64 → f i < p) (hg : ∀ i, i < 64 → g i < p) :
    Calls Try.prog 124 #[.int .i64 (p : Int), .agg (bcells 64 f), .agg (bcells 64 g)] w fun e w' => e = .returned (.agg (bcells 64 fun i => (f i + p - g i) % p)) ∧ Below w.heap.size w w' := by
  go_enter Try.func124, Try.ntmps124
  go_wp2_with fail
  have HF := Lib.hid hf; clear hf
  have HG := Lib.hid hg; clear hg
  rw [← zero64]
  go_loopw [8] (fun i wr => ∃ k : Nat, k ≤ 64 ∧ i = .int .i64 (k : Int) ∧ Below w.heap.size w wr ∧ Blk wr w.heap.size 64 23 (fun i => if i < k then (f i + p - g i) % p else f i) ∧ Blk wr (w.heap.size + 1) 64 23 g ∧ Blk wr (w.heap.size + 1 + 1) 64 23 (fun _ => 0)) (fun i _ => 64 - (intOf i).toNat)
  case atStart =>
    refine ⟨0, by omega, rfl, (((Below.refl _ _).alloc (Nat.le_refl _) _).alloc (by simp) _).alloc (by simp; omega) _, ?_, ?_, ?_⟩
    · exact (((Blk.new w _ _ _).alloc _).alloc _).congr (by simp)
    · have := ((Blk.new (w.alloc (.cells (bcells 64 f) 23)) 64 23 g).alloc (.cells (bcells 64 fun _ => 0) 23)); simpa using this
    · have := (Blk.new ((w.alloc (.cells (bcells 64 f) 23)).alloc (.cells (bcells 64 g) 23)) 64 23 (fun _ => 0)); simpa using this
  case round =>
    obtain ⟨k, hk, rfl, hb, h0, h1, h2⟩ := hrel
    by_cases hlt : k < 64
    · have c4 : wr.cell? ⟨w.heap.size, k, none⟩ = some (.int .u8 (f k : Int)) := by rw [h0.cell hlt]; simp
      have c5 := h1.cell hlt
      have z4 := h0.frozen k
      have b1 : f k < p := HF.out k hlt
      have b2 : g k < p := HG.out k hlt
      go_wp2_with fail
      go_region
      go_wp2_with fail
      go_roundw
      case rel =>
        refine ⟨k + 1, by omega, by go_num, (hb.setCell (by simp) _).drew, ?_, ?_, ?_⟩
        · exact ((h0.set (v := (f k + p - g k) % p) (by rw [Int.natCast_emod, Int.natCast_sub (by omega)]; push_cast; rfl)).congr (fun i _ => upd_lt (a := fun i => (f i + p - g i) % p) rfl i)).drew
        · exact (h1.setOther (by simp)).drew
        · exact (h2.setOther (by simp; omega)).drew
      case measure => simp [intOf]; omega
    · have e : k = 64 := by omega
      subst e
      go_wp2_with (first | refine wpList_load_blk rfl 23 _ rfl _ rfl 64 23 _ (h0) 5 Try.underlying23 Try.size23 ?_ | refine wpList_store_blk rfl 23 _ _ rfl _ 64 ((fun i => if i < 64 then (f i + p - g i) % p else f i)) rfl rfl 23 _ (h2) Try.size23 ?_)
      refine bodyPost_ret (results_blk rfl _ _ _ 64 23 5 _ rfl (h2.row _) Try.underlying23 Try.size23) rfl ⟨?_, ?_⟩
      · rw [bcells_congr (g := fun i => (f i + p - g i) % p)]
        intro i hi; simp [hi]
      · exact below_setRow hb (by omega) _

/-- f and k times g, modulo p -/
def addK (p : Nat) (f g : Nat → Nat) (k : Int) : Nat → Nat := fun i => (((f i : Int) + k * (g i : Int)) % (p : Int)).toNat
theorem tmod_twice (x : Int) (p : Nat) (hp : 0 < p) : (x.tmod p + p).tmod p = x % (p : Int) := by
  have h1 : -(p : Int) < x.tmod p := by
    have := Int.tmod_lt_of_pos (-x) (b := (p : Int)) (by omega)
    rw [Int.neg_tmod] at this; omega
  rw [Int.tmod_eq_emod_of_nonneg (by omega), Int.add_emod_right]
  rw [Int.tmod_def, Int.sub_mul_emod_self_left]
theorem small_mul (k : Int) (n : Nat) (hk1 : -6 ≤ k) (hk2 : k ≤ 6) (hn : n < 7) : -42 ≤ k * (n : Int) ∧ k * (n : Int) ≤ 42 := by
  have : n = 0 ∨ n = 1 ∨ n = 2 ∨ n = 3 ∨ n = 4 ∨ n = 5 ∨ n = 6 := by omega
  rcases this with h | h | h | h | h | h | h <;> subst h <;> constructor <;> omega

set_option maxRecDepth 100000 in
set_option maxHeartbeats 800000 in
theorem l01Add_any (p : Nat) (f g : Nat → Nat) (k0 : Int) (w : World) (hp1 : 2 ≤ p) (hp2 : p ≤ 7) (hk1 : -6 ≤ k0) (hk2 : k0 ≤ 6) (hf : ∀ i, i < 64 → f i < p) (hg : ∀ i, i < 64 → g i < p) :
    Calls Try.prog 107 #[.int .i64 (p : Int), .agg (bcells 64 f), .agg (bcells 64 g), .int .i64 k0] w fun e w' => e = .returned (.agg (bcells 64 (addK p f g k0))) ∧ Below w.heap.size w w' := by
  go_enter Try.func107, Try.ntmps107
  go_wp2_with fail
  have HF := Lib.hid hf; clear hf
  have HG := Lib.hid hg; clear hg
  rw [← zero64]
  go_loopw [9] (fun i wr => ∃ k : Nat, k ≤ 64 ∧ i = .int .i64 (k : Int) ∧ Below w.heap.size w wr ∧ Blk wr w.heap.size 64 23 (fun i => if i < k then addK p f g k0 i else f i) ∧ Blk wr (w.heap.size + 1) 64 23 g ∧ Blk wr (w.heap.size + 1 + 1) 64 23 (fun _ => 0)) (fun i _ => 64 - (intOf i).toNat)
  case atStart =>
    refine ⟨0, by omega, rfl, (((Below.refl _ _).alloc (Nat.le_refl _) _).alloc (by simp) _).alloc (by simp; omega) _, ?_, ?_, ?_⟩
    · exact (((Blk.new w _ _ _).alloc _).alloc _).congr (by simp)
    · have := ((Blk.new (w.alloc (.cells (bcells 64 f) 23)) 64 23 g).alloc (.cells (bcells 64 fun _ => 0) 23)); simpa using this
    · have := (Blk.new ((w.alloc (.cells (bcells 64 f) 23)).alloc (.cells (bcells 64 g) 23)) 64 23 (fun _ => 0)); simpa using this
  case round =>
    obtain ⟨k, hk, rfl, hb, h0, h1, h2⟩ := hrel
    by_cases hlt : k < 64
    · have c4 : wr.cell? ⟨w.heap.size, k, none⟩ = some (.int .u8 (f k : Int)) := by rw [h0.cell hlt]; simp
      have c5 := h1.cell hlt
      have z4 := h0.frozen k
      have b1 : f k < p := HF.out k hlt
      have b2 : g k < p := HG.out k hlt
      obtain ⟨m1, m2⟩ := small_mul k0 (g k) hk1 hk2 (by omega)
      have t1 : -(p : Int) < ((f k : Int) + k0 * (g k : Int)).tmod p := by
        have := Int.tmod_lt_of_pos (-((f k : Int) + k0 * (g k : Int))) (b := (p : Int)) (by omega)
        rw [Int.neg_tmod] at this; omega
      have t2 : ((f k : Int) + k0 * (g k : Int)).tmod p < (p : Int) := Int.tmod_lt_of_pos _ (by omega)
      have hA : Hid (((f k : Int) + k0 * (g k : Int)).tmod p % p % 256 = (addK p f g k0 k : Int)) := by
        have e1 : ((f k : Int) + k0 * (g k : Int)).tmod p % p = ((f k : Int) + k0 * (g k : Int)) % p := by rw [Int.tmod_def, Int.sub_mul_emod_self_left]
        have e2 := Int.emod_nonneg ((f k : Int) + k0 * (g k : Int)) (b := (p : Int)) (by omega)
        have e3 := Int.emod_lt_of_pos ((f k : Int) + k0 * (g k : Int)) (b := (p : Int)) (by omega)
        unfold addK
        rw [Int.toNat_of_nonneg e2, e1]
        exact Int.emod_eq_of_lt e2 (by omega)
      have hm0 : (0 : Int) ≤ ((f k : Int) + k0 * (g k : Int)).tmod p + p := by omega
      go_wp2_with fail
      go_region
      go_wp2_with fail
      go_roundw
      case rel =>
        refine ⟨k + 1, by omega, by go_num, (hb.setCell (by simp) _).drew, ?_, ?_, ?_⟩
        · exact ((h0.set (v := addK p f g k0 k) hA.out).congr (fun i _ => upd_lt (a := addK p f g k0) rfl i)).drew
        · exact (h1.setOther (by simp)).drew
        · exact (h2.setOther (by simp; omega)).drew
      case measure => simp [intOf]; omega
    · have e : k = 64 := by omega
      subst e
      go_wp2_with (first | refine wpList_load_blk rfl 23 _ rfl _ rfl 64 23 _ (h0) 5 Try.underlying23 Try.size23 ?_ | refine wpList_store_blk rfl 23 _ _ rfl _ 64 ((fun i => if i < 64 then addK p f g k0 i else f i)) rfl rfl 23 _ (h2) Try.size23 ?_)
      refine bodyPost_ret (results_blk rfl _ _ _ 64 23 5 _ rfl (h2.row _) Try.underlying23 Try.size23) rfl ⟨?_, ?_⟩
      · rw [bcells_congr (g := addK p f g k0)]
        intro i hi; simp [hi]
      · exact below_setRow hb (by omega) _
end Go.Proofs.Ytbjpkmbhbpcbgaa
