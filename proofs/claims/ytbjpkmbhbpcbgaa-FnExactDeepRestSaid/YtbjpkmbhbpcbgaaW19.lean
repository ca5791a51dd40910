/-
  Walks: multiples, the polynomial 1, and the model's search for a common divisor.
-/
import Derived.Test.YtbjpkmbhbpcbgaaEub
namespace Go.Proofs.Ytbjpkmbhbpcbgaa
open Go.RowKit
set_option linter.unusedVariables false
set_option linter.unusedSimpArgs false
attribute [local irreducible] deg invN dS qS stp stpr quoP resP
theorem one64 : bcells 64 oneP = #[.int .u8 1, .int .u8 0, .int .u8 0, .int .u8 0, .int .u8 0, .int .u8 0, .int .u8 0, .int .u8 0, .int .u8 0, .int .u8 0, .int .u8 0, .int .u8 0, .int .u8 0, .int .u8 0, .int .u8 0, .int .u8 0, .int .u8 0, .int .u8 0, .int .u8 0, .int .u8 0, .int .u8 0, .int .u8 0, .int .u8 0, .int .u8 0, .int .u8 0, .int .u8 0, .int .u8 0, .int .u8 0, .int .u8 0, .int .u8 0, .int .u8 0, .int .u8 0, .int .u8 0, .int .u8 0, .int .u8 0, .int .u8 0, .int .u8 0, .int .u8 0, .int .u8 0, .int .u8 0, .int .u8 0, .int .u8 0, .int .u8 0, .int .u8 0, .int .u8 0, .int .u8 0, .int .u8 0, .int .u8 0, .int .u8 0, .int .u8 0, .int .u8 0, .int .u8 0, .int .u8 0, .int .u8 0, .int .u8 0, .int .u8 0, .int .u8 0, .int .u8 0, .int .u8 0, .int .u8 0, .int .u8 0, .int .u8 0, .int .u8 0, .int .u8 0] := by simp only [bcells, bl, oneP]; kernel_rfl
set_option maxRecDepth 100000 in
set_option maxHeartbeats 400000 in
theorem scaled_any (p : Nat) (f : Nat → Nat) (c : Nat) (w : World) (hp1 : 2 ≤ p) (hp2 : p ≤ 7) (hf : ∀ i, i < 64 → f i < p) (hc : c < p) :
    Calls Try.prog 170 #[.int .i64 (p : Int), .agg (bcells 64 f), .int .u8 (c : Int)] w fun e w' => e = .returned (.agg (bcells 64 (sclP p f c))) ∧ Below w.heap.size w w' := by
  go_enter Try.func170, Try.ntmps170
  go_wp2_with fail
  have HF := Lib.hid hf; clear hf
  rw [← zero64]
  go_loopw [8] (fun i wr => ∃ k : Nat, k ≤ 64 ∧ i = .int .i64 (k : Int) ∧ Below w.heap.size w wr ∧ Blk wr w.heap.size 64 23 (fun i => if i < k then sclP p f c i else f i) ∧ Blk wr (w.heap.size + 1) 64 23 (fun _ => 0)) (fun i _ => 64 - (intOf i).toNat)
  case atStart =>
    refine ⟨0, by omega, rfl, (((Below.refl _ _).alloc (Nat.le_refl _) _).alloc (by simp) _), ?_, ?_⟩
    · exact ((Blk.new w _ _ _).alloc _).congr (by simp)
    · have := (Blk.new (w.alloc (.cells (bcells 64 f) 23)) 64 23 (fun _ => 0)); simpa using this
  case round =>
    obtain ⟨k, hk, rfl, hb, h0, h1⟩ := hrel
    by_cases hlt : k < 64
    · have c4 : wr.cell? ⟨w.heap.size, k, none⟩ = some (.int .u8 (f k : Int)) := by rw [h0.cell hlt]; simp
      have z4 := h0.frozen k
      have b1 : f k < p := HF.out k hlt
      obtain ⟨m1, m2⟩ := small_nat_mul hp2 b1 hc
      go_wp2_with fail
      go_roundw
      case rel =>
        refine ⟨k + 1, by omega, by go_num, (hb.setCell (by simp) _), ?_, ?_⟩
        · exact ((h0.set (v := sclP p f c k) (by unfold sclP; push_cast; rfl)).congr (fun i _ => upd_lt (a := sclP p f c) rfl i))
        · exact (h1.setOther (by simp))
      case measure => simp [intOf]; omega
    · have e : k = 64 := by omega
      subst e
      go_wp2_with (first | refine wpList_load_blk rfl 23 _ rfl _ rfl 64 23 _ (h0) 5 Try.underlying23 Try.size23 ?_ | refine wpList_store_blk rfl 23 _ _ rfl _ 64 ((fun i => if i < 64 then sclP p f c i else f i)) rfl rfl 23 _ (h1) Try.size23 ?_)
      refine bodyPost_ret (results_blk rfl _ _ _ 64 23 5 _ rfl (h1.row _) Try.underlying23 Try.size23) rfl ⟨?_, ?_⟩
      · rw [bcells_congr (g := sclP p f c)]
        intro i hi; simp [hi]
      · exact below_setRow hb (by omega) _
set_option maxRecDepth 100000 in
theorem l01One_any (w : World) : Calls Try.prog 75 #[] w fun e w' => e = .returned (.agg (bcells 64 oneP)) ∧ Below w.heap.size w w' := by
  go_enter Try.func75, Try.ntmps75
  go_upto_region 1 with (fail)
  rw [← zero64]
  have b0 := Blk.new w 64 23 (fun _ => 0)
  go_wp2_with (first | (refine wpList_store_blk rfl 23 _ _ rfl _ 64 oneP rfl (by rw [one64]; rfl) 23 _ b0 Try.size23 ?_))
  refine bodyPost_ret (results_blk rfl _ _ _ 64 23 5 _ rfl (b0.row _) Try.underlying23 Try.size23) rfl ⟨rfl, below_row (below_alloc' _ _) (Nat.le_refl _) _⟩
/-- the degree of what lies in a block, and one more -/
def degAt (w : World) (b : Nat) : Nat := match w.heap[b]? with
  | some (.cells cs _ _) => (deg (fun i => match cs[i]? with
    | some (.int _ v) => v.toNat
    | _ => 0) + 1).toNat
  | _ => 0
theorem degAt_blk {w : World} {b n : Nat} {t : TypeId} {f : Nat → Nat} (h : Blk w b n t f) (hn : 64 ≤ n) : degAt w b = (deg f + 1).toNat := by
  unfold degAt
  have e : w.heap[b]? = some (.cells (bcells n f) t (0, 0)) := by unfold Blk at h; exact h
  rw [e]
  simp only
  rw [deg_congr (g := f) (fun k hk => by rw [bcells_get (f := f) (show k < n by omega)]; simp)]
theorem new2 (w : World) (g0 g1 : Nat → Nat) : Blk ((w.alloc (.cells (bcells 64 fun _ => 0) 23)).alloc (.cells (bcells 64 fun _ => 0) 23)) (w.heap.size) 64 23 (fun _ => 0) ∧ Blk (((w.alloc (.cells (bcells 64 fun _ => 0) 23)).alloc (.cells (bcells 64 fun _ => 0) 23)).setRow (w.heap.size) (bcells 64 g0)) (w.heap.size + 1) 64 23 (fun _ => 0) ∧ Blk ((((w.alloc (.cells (bcells 64 fun _ => 0) 23)).alloc (.cells (bcells 64 fun _ => 0) 23)).setRow (w.heap.size) (bcells 64 g0)).setRow (w.heap.size + 1) (bcells 64 g1)) (w.heap.size) 64 23 g0 ∧ Blk ((((w.alloc (.cells (bcells 64 fun _ => 0) 23)).alloc (.cells (bcells 64 fun _ => 0) 23)).setRow (w.heap.size) (bcells 64 g0)).setRow (w.heap.size + 1) (bcells 64 g1)) (w.heap.size + 1) 64 23 g1 ∧ Below w.heap.size w ((((w.alloc (.cells (bcells 64 fun _ => 0) 23)).alloc (.cells (bcells 64 fun _ => 0) 23)).setRow (w.heap.size) (bcells 64 g0)).setRow (w.heap.size + 1) (bcells 64 g1)) := by
  have e0 : Blk ((w.alloc (.cells (bcells 64 fun _ => 0) 23)).alloc (.cells (bcells 64 fun _ => 0) 23)) (w.heap.size) 64 23 (fun _ => 0) := by have := ((Blk.new w 64 23 (fun _ => 0)).alloc (.cells (bcells 64 fun _ => 0) 23)); simpa using this
  have e1 : Blk ((w.alloc (.cells (bcells 64 fun _ => 0) 23)).alloc (.cells (bcells 64 fun _ => 0) 23)) (w.heap.size + 1) 64 23 (fun _ => 0) := by have := (Blk.new (w.alloc (.cells (bcells 64 fun _ => 0) 23)) 64 23 (fun _ => 0)); simpa using this
  have hb : Below w.heap.size w ((w.alloc (.cells (bcells 64 fun _ => 0) 23)).alloc (.cells (bcells 64 fun _ => 0) 23)) := (((Below.refl w.heap.size w).alloc (Nat.le_refl _) (.cells (bcells 64 fun _ => 0) 23)).alloc (by simp) (.cells (bcells 64 fun _ => 0) 23))
  exact ⟨e0, (e1.rowOther (by omega)), ((e0.row g0).rowOther (by omega)), ((e1.rowOther (by omega)).row g1), (below_row (below_row hb (by omega) _) (by omega) _)⟩
theorem new3 (w : World) (g0 g1 g2 : Nat → Nat) : Blk (((w.alloc (.cells (bcells 64 fun _ => 0) 23)).alloc (.cells (bcells 64 fun _ => 0) 23)).alloc (.cells (bcells 64 fun _ => 0) 23)) (w.heap.size) 64 23 (fun _ => 0) ∧ Blk ((((w.alloc (.cells (bcells 64 fun _ => 0) 23)).alloc (.cells (bcells 64 fun _ => 0) 23)).alloc (.cells (bcells 64 fun _ => 0) 23)).setRow (w.heap.size) (bcells 64 g0)) (w.heap.size + 1) 64 23 (fun _ => 0) ∧ Blk (((((w.alloc (.cells (bcells 64 fun _ => 0) 23)).alloc (.cells (bcells 64 fun _ => 0) 23)).alloc (.cells (bcells 64 fun _ => 0) 23)).setRow (w.heap.size) (bcells 64 g0)).setRow (w.heap.size + 1) (bcells 64 g1)) (w.heap.size + 1 + 1) 64 23 (fun _ => 0) ∧ Blk ((((((w.alloc (.cells (bcells 64 fun _ => 0) 23)).alloc (.cells (bcells 64 fun _ => 0) 23)).alloc (.cells (bcells 64 fun _ => 0) 23)).setRow (w.heap.size) (bcells 64 g0)).setRow (w.heap.size + 1) (bcells 64 g1)).setRow (w.heap.size + 1 + 1) (bcells 64 g2)) (w.heap.size) 64 23 g0 ∧ Blk ((((((w.alloc (.cells (bcells 64 fun _ => 0) 23)).alloc (.cells (bcells 64 fun _ => 0) 23)).alloc (.cells (bcells 64 fun _ => 0) 23)).setRow (w.heap.size) (bcells 64 g0)).setRow (w.heap.size + 1) (bcells 64 g1)).setRow (w.heap.size + 1 + 1) (bcells 64 g2)) (w.heap.size + 1) 64 23 g1 ∧ Blk ((((((w.alloc (.cells (bcells 64 fun _ => 0) 23)).alloc (.cells (bcells 64 fun _ => 0) 23)).alloc (.cells (bcells 64 fun _ => 0) 23)).setRow (w.heap.size) (bcells 64 g0)).setRow (w.heap.size + 1) (bcells 64 g1)).setRow (w.heap.size + 1 + 1) (bcells 64 g2)) (w.heap.size + 1 + 1) 64 23 g2 ∧ Below w.heap.size w ((((((w.alloc (.cells (bcells 64 fun _ => 0) 23)).alloc (.cells (bcells 64 fun _ => 0) 23)).alloc (.cells (bcells 64 fun _ => 0) 23)).setRow (w.heap.size) (bcells 64 g0)).setRow (w.heap.size + 1) (bcells 64 g1)).setRow (w.heap.size + 1 + 1) (bcells 64 g2)) := by
  have e0 : Blk (((w.alloc (.cells (bcells 64 fun _ => 0) 23)).alloc (.cells (bcells 64 fun _ => 0) 23)).alloc (.cells (bcells 64 fun _ => 0) 23)) (w.heap.size) 64 23 (fun _ => 0) := by have := (((Blk.new w 64 23 (fun _ => 0)).alloc (.cells (bcells 64 fun _ => 0) 23)).alloc (.cells (bcells 64 fun _ => 0) 23)); simpa using this
  have e1 : Blk (((w.alloc (.cells (bcells 64 fun _ => 0) 23)).alloc (.cells (bcells 64 fun _ => 0) 23)).alloc (.cells (bcells 64 fun _ => 0) 23)) (w.heap.size + 1) 64 23 (fun _ => 0) := by have := ((Blk.new (w.alloc (.cells (bcells 64 fun _ => 0) 23)) 64 23 (fun _ => 0)).alloc (.cells (bcells 64 fun _ => 0) 23)); simpa using this
  have e2 : Blk (((w.alloc (.cells (bcells 64 fun _ => 0) 23)).alloc (.cells (bcells 64 fun _ => 0) 23)).alloc (.cells (bcells 64 fun _ => 0) 23)) (w.heap.size + 1 + 1) 64 23 (fun _ => 0) := by have := (Blk.new ((w.alloc (.cells (bcells 64 fun _ => 0) 23)).alloc (.cells (bcells 64 fun _ => 0) 23)) 64 23 (fun _ => 0)); simpa using this
  have hb : Below w.heap.size w (((w.alloc (.cells (bcells 64 fun _ => 0) 23)).alloc (.cells (bcells 64 fun _ => 0) 23)).alloc (.cells (bcells 64 fun _ => 0) 23)) := ((((Below.refl w.heap.size w).alloc (Nat.le_refl _) (.cells (bcells 64 fun _ => 0) 23)).alloc (by simp) (.cells (bcells 64 fun _ => 0) 23)).alloc (by simp; omega) (.cells (bcells 64 fun _ => 0) 23))
  exact ⟨e0, (e1.rowOther (by omega)), ((e2.rowOther (by omega)).rowOther (by omega)), (((e0.row g0).rowOther (by omega)).rowOther (by omega)), (((e1.rowOther (by omega)).row g1).rowOther (by omega)), (((e2.rowOther (by omega)).rowOther (by omega)).row g2), (below_row (below_row (below_row hb (by omega) _) (by omega) _) (by omega) _)⟩
theorem new4 (w : World) (g0 g1 g2 g3 : Nat → Nat) : Blk ((((w.alloc (.cells (bcells 64 fun _ => 0) 23)).alloc (.cells (bcells 64 fun _ => 0) 23)).alloc (.cells (bcells 64 fun _ => 0) 23)).alloc (.cells (bcells 64 fun _ => 0) 23)) (w.heap.size) 64 23 (fun _ => 0) ∧ Blk (((((w.alloc (.cells (bcells 64 fun _ => 0) 23)).alloc (.cells (bcells 64 fun _ => 0) 23)).alloc (.cells (bcells 64 fun _ => 0) 23)).alloc (.cells (bcells 64 fun _ => 0) 23)).setRow (w.heap.size) (bcells 64 g0)) (w.heap.size + 1) 64 23 (fun _ => 0) ∧ Blk ((((((w.alloc (.cells (bcells 64 fun _ => 0) 23)).alloc (.cells (bcells 64 fun _ => 0) 23)).alloc (.cells (bcells 64 fun _ => 0) 23)).alloc (.cells (bcells 64 fun _ => 0) 23)).setRow (w.heap.size) (bcells 64 g0)).setRow (w.heap.size + 1) (bcells 64 g1)) (w.heap.size + 1 + 1) 64 23 (fun _ => 0) ∧ Blk (((((((w.alloc (.cells (bcells 64 fun _ => 0) 23)).alloc (.cells (bcells 64 fun _ => 0) 23)).alloc (.cells (bcells 64 fun _ => 0) 23)).alloc (.cells (bcells 64 fun _ => 0) 23)).setRow (w.heap.size) (bcells 64 g0)).setRow (w.heap.size + 1) (bcells 64 g1)).setRow (w.heap.size + 1 + 1) (bcells 64 g2)) (w.heap.size + 1 + 1 + 1) 64 23 (fun _ => 0) ∧ Blk ((((((((w.alloc (.cells (bcells 64 fun _ => 0) 23)).alloc (.cells (bcells 64 fun _ => 0) 23)).alloc (.cells (bcells 64 fun _ => 0) 23)).alloc (.cells (bcells 64 fun _ => 0) 23)).setRow (w.heap.size) (bcells 64 g0)).setRow (w.heap.size + 1) (bcells 64 g1)).setRow (w.heap.size + 1 + 1) (bcells 64 g2)).setRow (w.heap.size + 1 + 1 + 1) (bcells 64 g3)) (w.heap.size) 64 23 g0 ∧ Blk ((((((((w.alloc (.cells (bcells 64 fun _ => 0) 23)).alloc (.cells (bcells 64 fun _ => 0) 23)).alloc (.cells (bcells 64 fun _ => 0) 23)).alloc (.cells (bcells 64 fun _ => 0) 23)).setRow (w.heap.size) (bcells 64 g0)).setRow (w.heap.size + 1) (bcells 64 g1)).setRow (w.heap.size + 1 + 1) (bcells 64 g2)).setRow (w.heap.size + 1 + 1 + 1) (bcells 64 g3)) (w.heap.size + 1) 64 23 g1 ∧ Blk ((((((((w.alloc (.cells (bcells 64 fun _ => 0) 23)).alloc (.cells (bcells 64 fun _ => 0) 23)).alloc (.cells (bcells 64 fun _ => 0) 23)).alloc (.cells (bcells 64 fun _ => 0) 23)).setRow (w.heap.size) (bcells 64 g0)).setRow (w.heap.size + 1) (bcells 64 g1)).setRow (w.heap.size + 1 + 1) (bcells 64 g2)).setRow (w.heap.size + 1 + 1 + 1) (bcells 64 g3)) (w.heap.size + 1 + 1) 64 23 g2 ∧ Blk ((((((((w.alloc (.cells (bcells 64 fun _ => 0) 23)).alloc (.cells (bcells 64 fun _ => 0) 23)).alloc (.cells (bcells 64 fun _ => 0) 23)).alloc (.cells (bcells 64 fun _ => 0) 23)).setRow (w.heap.size) (bcells 64 g0)).setRow (w.heap.size + 1) (bcells 64 g1)).setRow (w.heap.size + 1 + 1) (bcells 64 g2)).setRow (w.heap.size + 1 + 1 + 1) (bcells 64 g3)) (w.heap.size + 1 + 1 + 1) 64 23 g3 ∧ Below w.heap.size w ((((((((w.alloc (.cells (bcells 64 fun _ => 0) 23)).alloc (.cells (bcells 64 fun _ => 0) 23)).alloc (.cells (bcells 64 fun _ => 0) 23)).alloc (.cells (bcells 64 fun _ => 0) 23)).setRow (w.heap.size) (bcells 64 g0)).setRow (w.heap.size + 1) (bcells 64 g1)).setRow (w.heap.size + 1 + 1) (bcells 64 g2)).setRow (w.heap.size + 1 + 1 + 1) (bcells 64 g3)) := by
  have e0 : Blk ((((w.alloc (.cells (bcells 64 fun _ => 0) 23)).alloc (.cells (bcells 64 fun _ => 0) 23)).alloc (.cells (bcells 64 fun _ => 0) 23)).alloc (.cells (bcells 64 fun _ => 0) 23)) (w.heap.size) 64 23 (fun _ => 0) := by have := ((((Blk.new w 64 23 (fun _ => 0)).alloc (.cells (bcells 64 fun _ => 0) 23)).alloc (.cells (bcells 64 fun _ => 0) 23)).alloc (.cells (bcells 64 fun _ => 0) 23)); simpa using this
  have e1 : Blk ((((w.alloc (.cells (bcells 64 fun _ => 0) 23)).alloc (.cells (bcells 64 fun _ => 0) 23)).alloc (.cells (bcells 64 fun _ => 0) 23)).alloc (.cells (bcells 64 fun _ => 0) 23)) (w.heap.size + 1) 64 23 (fun _ => 0) := by have := (((Blk.new (w.alloc (.cells (bcells 64 fun _ => 0) 23)) 64 23 (fun _ => 0)).alloc (.cells (bcells 64 fun _ => 0) 23)).alloc (.cells (bcells 64 fun _ => 0) 23)); simpa using this
  have e2 : Blk ((((w.alloc (.cells (bcells 64 fun _ => 0) 23)).alloc (.cells (bcells 64 fun _ => 0) 23)).alloc (.cells (bcells 64 fun _ => 0) 23)).alloc (.cells (bcells 64 fun _ => 0) 23)) (w.heap.size + 1 + 1) 64 23 (fun _ => 0) := by have := ((Blk.new ((w.alloc (.cells (bcells 64 fun _ => 0) 23)).alloc (.cells (bcells 64 fun _ => 0) 23)) 64 23 (fun _ => 0)).alloc (.cells (bcells 64 fun _ => 0) 23)); simpa using this
  have e3 : Blk ((((w.alloc (.cells (bcells 64 fun _ => 0) 23)).alloc (.cells (bcells 64 fun _ => 0) 23)).alloc (.cells (bcells 64 fun _ => 0) 23)).alloc (.cells (bcells 64 fun _ => 0) 23)) (w.heap.size + 1 + 1 + 1) 64 23 (fun _ => 0) := by have := (Blk.new (((w.alloc (.cells (bcells 64 fun _ => 0) 23)).alloc (.cells (bcells 64 fun _ => 0) 23)).alloc (.cells (bcells 64 fun _ => 0) 23)) 64 23 (fun _ => 0)); simpa using this
  have hb : Below w.heap.size w ((((w.alloc (.cells (bcells 64 fun _ => 0) 23)).alloc (.cells (bcells 64 fun _ => 0) 23)).alloc (.cells (bcells 64 fun _ => 0) 23)).alloc (.cells (bcells 64 fun _ => 0) 23)) := (((((Below.refl w.heap.size w).alloc (Nat.le_refl _) (.cells (bcells 64 fun _ => 0) 23)).alloc (by simp) (.cells (bcells 64 fun _ => 0) 23)).alloc (by simp; omega) (.cells (bcells 64 fun _ => 0) 23)).alloc (by simp; omega) (.cells (bcells 64 fun _ => 0) 23))
  exact ⟨e0, (e1.rowOther (by omega)), ((e2.rowOther (by omega)).rowOther (by omega)), (((e3.rowOther (by omega)).rowOther (by omega)).rowOther (by omega)), ((((e0.row g0).rowOther (by omega)).rowOther (by omega)).rowOther (by omega)), ((((e1.rowOther (by omega)).row g1).rowOther (by omega)).rowOther (by omega)), ((((e2.rowOther (by omega)).rowOther (by omega)).row g2).rowOther (by omega)), ((((e3.rowOther (by omega)).rowOther (by omega)).rowOther (by omega)).row g3), (below_row (below_row (below_row (below_row hb (by omega) _) (by omega) _) (by omega) _) (by omega) _)⟩
end Go.Proofs.Ytbjpkmbhbpcbgaa
