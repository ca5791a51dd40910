/-
  Walks: rests, units, inverses.
-/
import Derived.Test.YtkaaffccklkafaaW27
namespace Go.Proofs.Ytkaaffccklkafaa
open Go.RowKit
set_option linter.unusedVariables false
set_option linter.unusedSimpArgs false
attribute [local irreducible] deg invN dS qS stp stpr quoP resP oneP bzD bzU bzW
set_option maxRecDepth 100000 in
set_option maxHeartbeats 400000 in
theorem l01Mod_any (p : Nat) (f m : Nat → Nat) (w : World) (hpr : p = 2 ∨ p = 3 ∨ p = 5 ∨ p = 7) (lf : ∀ k, k < 64 → f k < p) (lm : ∀ k, k < 64 → m k < p) (h0 : 0 ≤ deg m) :
    Calls Try.prog 207 #[.int .i64 (p : Int), .agg (bcells 64 f), .agg (bcells 64 m)] w fun e w' => e = .returned (.agg (bcells 64 (resP p f m))) ∧ Below w.heap.size w w' := by
  go_enter Try.func207, Try.ntmps207
  go_upto_region 1 with (fail)
  rw [← zero64]
  obtain ⟨W1, hwo⟩ : ∃ v : World, v = (((w.alloc (.cells (bcells 64 (f)) 25)).alloc (.cells (bcells 64 (m)) 25)).alloc (.cells (bcells 64 fun _ => 0) 25)) := ⟨_, rfl⟩
  have B0 : Blk W1 (w.heap.size) 64 25 (f) := by subst hwo; have := (((Blk.new w 64 25 (f)).alloc (.cells (bcells 64 (m)) 25)).alloc (.cells (bcells 64 fun _ => 0) 25)); simpa using this
  have B1 : Blk W1 (w.heap.size + 1) 64 25 (m) := by subst hwo; have := ((Blk.new (w.alloc (.cells (bcells 64 (f)) 25)) 64 25 (m)).alloc (.cells (bcells 64 fun _ => 0) 25)); simpa using this
  have B2 : Blk W1 (w.heap.size + 1 + 1) 64 25 (fun _ => 0) := by subst hwo; have := (Blk.new ((w.alloc (.cells (bcells 64 (f)) 25)).alloc (.cells (bcells 64 (m)) 25)) 64 25 (fun _ => 0)); simpa using this
  have hb : Below w.heap.size w W1 := by subst hwo; exact ((((Below.refl _ _).alloc (Nat.le_refl _) _).alloc (by simp) _).alloc (by simp; omega) _)
  rw [← hwo]
  clear hwo
  have lt_B0 := B0.lt
  have lt_B1 := B1.lt
  have lt_B2 := B2.lt
  go_upto_region 2 with (first | rw [← zero64] | (refine wpList_load_any rfl 25 (.tmp 4) rfl _ rfl 64 25 _ (B0) _ Try.underlying25 rfl Try.size25 ?_) | (refine wpList_load_any rfl 25 (.tmp 5) rfl _ rfl 64 25 _ (B1) _ Try.underlying25 rfl Try.size25 ?_) | (go_at_call 152; refine (l01Divide_any p f m _ hpr lf lm h0).mono ?_; rintro e W2 ⟨rfl, hW2⟩; replace B0 := B0.below hW2 B0.lt; replace B1 := B1.below hW2 B1.lt; replace B2 := B2.below hW2 B2.lt; replace hb := (hb).trans (hW2.mono (hb).size)) | (refine wpList_store_blk rfl 25 (.tmp 7) (.tmp 14) rfl _ 64 (quoP p f m) rfl rfl 25 _ (((Blk.new W2 64 25 (fun _ => 0)).alloc (.cells (bcells 64 fun _ => 0) 25))) Try.size25 ?_; try simp only [Act.put]) | (refine wpList_store_blk rfl 25 (.tmp 8) (.tmp 15) rfl _ 64 (resP p f m) rfl rfl 25 _ (((show Blk ((W2.alloc (.cells (bcells 64 fun _ => 0) 25)).alloc (.cells (bcells 64 fun _ => 0) 25)) (W2.heap.size + 1) 64 25 (fun _ => 0) by have := Blk.new (W2.alloc (.cells (bcells 64 fun _ => 0) 25)) 64 25 (fun _ => 0); simpa using this).rowOther (by omega))) Try.size25 ?_; try simp only [Act.put]))
  have lt_B0 := B0.lt
  have lt_B1 := B1.lt
  have lt_B2 := B2.lt
  have lhb := hb.size
  have qB0 : Blk ((((W2.alloc (.cells (bcells 64 fun _ => 0) 25)).alloc (.cells (bcells 64 fun _ => 0) 25)).setRow (W2.heap.size) (bcells 64 (quoP p f m))).setRow (W2.heap.size + 1) (bcells 64 (resP p f m))) (w.heap.size) 64 25 (f) := ((((B0.alloc (.cells (bcells 64 fun _ => 0) 25)).alloc (.cells (bcells 64 fun _ => 0) 25)).rowOther (by omega)).rowOther (by omega))
  have qB1 : Blk ((((W2.alloc (.cells (bcells 64 fun _ => 0) 25)).alloc (.cells (bcells 64 fun _ => 0) 25)).setRow (W2.heap.size) (bcells 64 (quoP p f m))).setRow (W2.heap.size + 1) (bcells 64 (resP p f m))) (w.heap.size + 1) 64 25 (m) := ((((B1.alloc (.cells (bcells 64 fun _ => 0) 25)).alloc (.cells (bcells 64 fun _ => 0) 25)).rowOther (by omega)).rowOther (by omega))
  have qB2 : Blk ((((W2.alloc (.cells (bcells 64 fun _ => 0) 25)).alloc (.cells (bcells 64 fun _ => 0) 25)).setRow (W2.heap.size) (bcells 64 (quoP p f m))).setRow (W2.heap.size + 1) (bcells 64 (resP p f m))) (w.heap.size + 1 + 1) 64 25 (fun _ => 0) := ((((B2.alloc (.cells (bcells 64 fun _ => 0) 25)).alloc (.cells (bcells 64 fun _ => 0) 25)).rowOther (by omega)).rowOther (by omega))
  have qB3 : Blk ((((W2.alloc (.cells (bcells 64 fun _ => 0) 25)).alloc (.cells (bcells 64 fun _ => 0) 25)).setRow (W2.heap.size) (bcells 64 (quoP p f m))).setRow (W2.heap.size + 1) (bcells 64 (resP p f m))) (W2.heap.size) 64 25 (quoP p f m) := ((((Blk.new W2 64 25 (fun _ => 0)).alloc (.cells (bcells 64 fun _ => 0) 25)).row (quoP p f m)).rowOther (by omega))
  have qB4 : Blk ((((W2.alloc (.cells (bcells 64 fun _ => 0) 25)).alloc (.cells (bcells 64 fun _ => 0) 25)).setRow (W2.heap.size) (bcells 64 (quoP p f m))).setRow (W2.heap.size + 1) (bcells 64 (resP p f m))) (W2.heap.size + 1) 64 25 (resP p f m) := (((show Blk ((W2.alloc (.cells (bcells 64 fun _ => 0) 25)).alloc (.cells (bcells 64 fun _ => 0) 25)) (W2.heap.size + 1) 64 25 (fun _ => 0) by have := Blk.new (W2.alloc (.cells (bcells 64 fun _ => 0) 25)) 64 25 (fun _ => 0); simpa using this).rowOther (by omega)).row (resP p f m))
  have qhb : Below w.heap.size w ((((W2.alloc (.cells (bcells 64 fun _ => 0) 25)).alloc (.cells (bcells 64 fun _ => 0) 25)).setRow (W2.heap.size) (bcells 64 (quoP p f m))).setRow (W2.heap.size + 1) (bcells 64 (resP p f m))) := (below_row (below_row ((hb.alloc (by have := hb.size; simp; omega) (.cells (bcells 64 fun _ => 0) 25)).alloc (by have := hb.size; simp; omega) (.cells (bcells 64 fun _ => 0) 25)) (by omega) _) (by omega) _)
  obtain ⟨W3, hwo⟩ : ∃ v : World, v = ((((W2.alloc (.cells (bcells 64 fun _ => 0) 25)).alloc (.cells (bcells 64 fun _ => 0) 25)).setRow (W2.heap.size) (bcells 64 (quoP p f m))).setRow (W2.heap.size + 1) (bcells 64 (resP p f m))) := ⟨_, rfl⟩
  rw [← hwo] at qB0 qB1 qB2 qB3 qB4 qhb ⊢
  clear hwo
  clear B0 B1 B2 hb
  have B0 := qB0
  have B1 := qB1
  have B2 := qB2
  have B3 := qB3
  have B4 := qB4
  have hb := qhb
  clear qB0 qB1 qB2 qB3 qB4 qhb
  obtain ⟨N1, hNN⟩ : ∃ n : Nat, n = W2.heap.size := ⟨_, rfl⟩
  rw [← hNN] at lt_B0 lt_B1 lt_B2 lhb B3 B4 ⊢
  clear hNN
  have zN1_0 := lt_B0
  have zN1_1 := lt_B1
  have zN1_2 := lt_B2
  have zN1 := lhb
  clear lt_B0 lt_B1 lt_B2 lhb
  try simp only [Act.put, List.setIfInBounds_toArray, List.set_cons_zero, List.set_cons_succ]
  have lt_B0 := B0.lt
  have lt_B1 := B1.lt
  have lt_B2 := B2.lt
  have lt_B3 := B3.lt
  have lt_B4 := B4.lt
  go_wp2_with (first | rw [← zero64] | (refine wpList_load_any rfl 25 (.tmp 8) rfl _ rfl 64 25 _ (B4) _ Try.underlying25 rfl Try.size25 ?_) | (refine wpList_store_blk rfl 25 (.tmp 6) (.tmp 16) rfl _ 64 (resP p f m) rfl rfl 25 _ (B2) Try.size25 ?_; try simp only [Act.put]))
  have qB0 : Blk (W3.setRow (w.heap.size + 1 + 1) (bcells 64 (resP p f m))) (w.heap.size) 64 25 (f) := (B0.rowOther (by omega))
  have qB1 : Blk (W3.setRow (w.heap.size + 1 + 1) (bcells 64 (resP p f m))) (w.heap.size + 1) 64 25 (m) := (B1.rowOther (by omega))
  have qB2 : Blk (W3.setRow (w.heap.size + 1 + 1) (bcells 64 (resP p f m))) (w.heap.size + 1 + 1) 64 25 (resP p f m) := (B2.row (resP p f m))
  have qB3 : Blk (W3.setRow (w.heap.size + 1 + 1) (bcells 64 (resP p f m))) (N1) 64 25 (quoP p f m) := (B3.rowOther (by omega))
  have qB4 : Blk (W3.setRow (w.heap.size + 1 + 1) (bcells 64 (resP p f m))) (N1 + 1) 64 25 (resP p f m) := (B4.rowOther (by omega))
  have qhb : Below w.heap.size w (W3.setRow (w.heap.size + 1 + 1) (bcells 64 (resP p f m))) := (below_row hb (by omega) _)
  obtain ⟨W4, hwo⟩ : ∃ v : World, v = (W3.setRow (w.heap.size + 1 + 1) (bcells 64 (resP p f m))) := ⟨_, rfl⟩
  rw [← hwo] at qB0 qB1 qB2 qB3 qB4 qhb ⊢
  clear hwo
  clear B0 B1 B2 B3 B4 hb
  have B0 := qB0
  have B1 := qB1
  have B2 := qB2
  have B3 := qB3
  have B4 := qB4
  have hb := qhb
  clear qB0 qB1 qB2 qB3 qB4 qhb
  try simp only [Act.put, List.setIfInBounds_toArray, List.set_cons_zero, List.set_cons_succ]
  refine bodyPost_ret (results_blk rfl _ _ _ 64 25 5 _ rfl B2 Try.underlying25 Try.size25) rfl ⟨rfl, hb⟩
set_option maxRecDepth 100000 in
set_option maxHeartbeats 400000 in
theorem l02Unit_any (p : Nat) (f m : Nat → Nat) (w : World) (hpr : p = 2 ∨ p = 3 ∨ p = 5 ∨ p = 7) (lf : ∀ k, k < 64 → f k < p) (lm : ∀ k, k < 64 → m k < p) (h0 : 0 ≤ deg m) :
    Calls Try.prog 199 #[.int .i64 (p : Int), .agg (bcells 64 f), .agg (bcells 64 m)] w fun e w' => e = .returned (.bool (eqN 64 (bzD p f m) oneP)) ∧ Below w.heap.size w w' := by
  go_enter Try.func199, Try.ntmps199
  go_upto_region 1 with (fail)
  obtain ⟨W1, hwo⟩ : ∃ v : World, v = ((w.alloc (.cells (bcells 64 (f)) 25)).alloc (.cells (bcells 64 (m)) 25)) := ⟨_, rfl⟩
  have B0 : Blk W1 (w.heap.size) 64 25 (f) := by subst hwo; have := ((Blk.new w 64 25 (f)).alloc (.cells (bcells 64 (m)) 25)); simpa using this
  have B1 : Blk W1 (w.heap.size + 1) 64 25 (m) := by subst hwo; have := (Blk.new (w.alloc (.cells (bcells 64 (f)) 25)) 64 25 (m)); simpa using this
  have hb : Below w.heap.size w W1 := by subst hwo; exact (((Below.refl _ _).alloc (Nat.le_refl _) _).alloc (by simp) _)
  rw [← hwo]
  clear hwo
  have hgd := Try.noGuard25
  have heq := fun W => run_equalIn_bytes (P := Try.prog) W 9998 25 5 64 (bzD p f m) oneP Try.underlying25 Try.underlying5 Try.size5
  go_wp2_with (first | (refine wpList_load_any rfl 25 (.tmp 4) rfl _ rfl 64 25 _ (B0) _ Try.underlying25 rfl Try.size25 ?_) | (refine wpList_load_any rfl 25 (.tmp 5) rfl _ rfl 64 25 _ (B1) _ Try.underlying25 rfl Try.size25 ?_) | (go_at_call 166; refine (l01Gcd_any p f m _ hpr lf lm (fun h => absurd h.2 (by omega))).mono ?_; rintro e W2 ⟨rfl, hW2⟩; replace B0 := B0.below hW2 B0.lt; replace B1 := B1.below hW2 B1.lt; replace hb := (hb).trans (hW2.mono (hb).size)) | (go_at_call 177; refine (l01One_any _).mono ?_; rintro e W3 ⟨rfl, hW3⟩; replace B0 := B0.below hW3 B0.lt; replace B1 := B1.below hW3 B1.lt; replace hb := (hb).trans (hW3.mono (hb).size)))
  go_ret
  exact ⟨rfl, hb⟩
set_option maxRecDepth 100000 in
set_option maxHeartbeats 800000 in
theorem l02Inverse_any (p : Nat) (f m : Nat → Nat) (w : World) (hpr : p = 2 ∨ p = 3 ∨ p = 5 ∨ p = 7) (lf : ∀ k, k < 64 → f k < p) (lm : ∀ k, k < 64 → m k < p) (d : Nat) (hmon : mon m d) (h1 : eqN 64 (bzD p f m) oneP = true) :
    Calls Try.prog 200 #[.int .i64 (p : Int), .agg (bcells 64 f), .agg (bcells 64 m)] w fun e w' => e = .returned (.agg (bcells 64 (bzU p f m))) ∧ Below w.heap.size w w' := by
  have p0 : 0 < p := by omega
  have h0 : 0 ≤ deg m := by rw [hmon.1]; omega
  have HV := Lib.hid (bcells_congr (inv_same hpr lf lm hmon (eqN_iff.1 h1)))
  have HM := Lib.hid (fun W => l01Mod_any p f m W hpr lf lm h0)
  have HB := Lib.hid (fun W => l01Bezout_any p (resP p f m) m W hpr (resP_lt p0 lf) lm (.inr h0))
  have HM2 := Lib.hid (fun W => l01Mod_any p (bzU p (resP p f m) m) m W hpr (fun k _ => bzU_lt p0 k) lm h0)
  clear h1 hmon
  go_enter Try.func200, Try.ntmps200
  go_upto_region 1 with (fail)
  rw [← zero64]
  obtain ⟨W1, hwo⟩ : ∃ v : World, v = (((w.alloc (.cells (bcells 64 (f)) 25)).alloc (.cells (bcells 64 (m)) 25)).alloc (.cells (bcells 64 fun _ => 0) 25)) := ⟨_, rfl⟩
  have B0 : Blk W1 (w.heap.size) 64 25 (f) := by subst hwo; have := (((Blk.new w 64 25 (f)).alloc (.cells (bcells 64 (m)) 25)).alloc (.cells (bcells 64 fun _ => 0) 25)); simpa using this
  have B1 : Blk W1 (w.heap.size + 1) 64 25 (m) := by subst hwo; have := ((Blk.new (w.alloc (.cells (bcells 64 (f)) 25)) 64 25 (m)).alloc (.cells (bcells 64 fun _ => 0) 25)); simpa using this
  have B2 : Blk W1 (w.heap.size + 1 + 1) 64 25 (fun _ => 0) := by subst hwo; have := (Blk.new ((w.alloc (.cells (bcells 64 (f)) 25)).alloc (.cells (bcells 64 (m)) 25)) 64 25 (fun _ => 0)); simpa using this
  have hb : Below w.heap.size w W1 := by subst hwo; exact ((((Below.refl _ _).alloc (Nat.le_refl _) _).alloc (by simp) _).alloc (by simp; omega) _)
  rw [← hwo]
  clear hwo
  have lt_B0 : (w.heap.size) < W1.heap.size := B0.lt
  have lt_B1 : (w.heap.size + 1) < W1.heap.size := B1.lt
  have lt_B2 : (w.heap.size + 1 + 1) < W1.heap.size := B2.lt
  have hbase : w.heap.size ≤ W1.heap.size := hb.size
  refine wp_region_steps0 Try.mixed (by kernel_rfl) (by kernel_rfl) (fun v => by (simp only [frL, Act.put, List.setIfInBounds_toArray, List.set_cons_zero, List.set_cons_succ, Nat.reduceAdd, Nat.zero_add]; exact rfl))
    (fun L v W2 => Below w.heap.size w W2 ∧ W1.heap.size ≤ W2.heap.size ∧ Blk W2 (w.heap.size) 64 25 (f) ∧ Blk W2 (w.heap.size + 1) 64 25 (m) ∧ Blk W2 (w.heap.size + 1 + 1) 64 25 (fun _ => 0) ∧ (L 0 = true → v 0 = (.int .i64 (p : Int))) ∧ (L 1 = true → v 1 = (.int .i64 (p : Int))) ∧ (L 2 = true → v 2 = (.agg (bcells 64 (f)))) ∧ (L 3 = true → v 3 = (.agg (bcells 64 (m)))) ∧ (L 4 = true → v 4 = (.agg (bcells 64 (resP p f m)))) ∧ (L 5 = true → v 5 = (.agg (bcells 64 (m)))) ∧ (L 6 = true → v 6 = (.tuple #[(.agg (bcells 64 (bzD p (resP p f m) m))), (.agg (bcells 64 (bzU p (resP p f m) m))), (.agg (bcells 64 (bzW p (resP p f m) m)))])) ∧ (L 7 = true → v 7 = (.tuple #[(.agg (bcells 64 (bzD p (resP p f m) m))), (.agg (bcells 64 (bzU p (resP p f m) m))), (.agg (bcells 64 (bzW p (resP p f m) m)))])) ∧ (L 8 = true → v 8 = (.agg (bcells 64 (bzD p (resP p f m) m)))) ∧ (L 9 = true → v 9 = (.agg (bcells 64 (bzU p (resP p f m) m)))) ∧ (L 10 = true → v 10 = (.agg (bcells 64 (bzW p (resP p f m) m)))) ∧ (L 11 = true → AF (v 11) W2 W1.heap.size 64 25) ∧ (L 12 = true → AF (v 12) W2 W1.heap.size 64 25) ∧ (L 13 = true → AF (v 13) W2 W1.heap.size 64 25) ∧ (L 14 = true → PF (v 11) W2 W1.heap.size 64 25 (bzD p (resP p f m) m)) ∧ (L 15 = true → PF (v 12) W2 W1.heap.size 64 25 (bzU p (resP p f m) m)) ∧ (L 16 = true → PF (v 13) W2 W1.heap.size 64 25 (bzW p (resP p f m) m)) ∧ (L 11 = true → L 12 = true → v 11 ≠ v 12) ∧ (L 11 = true → L 13 = true → v 11 ≠ v 13) ∧ (L 12 = true → L 13 = true → v 12 ≠ v 13)) ?_ ?_ ?_
  · intro v hv0
    exact ⟨hb.drew, Nat.le_refl _, B0.drew, B1.drew, B2.drew, (fun h => by cases h), (fun h => by cases h), (fun h => by cases h), (fun h => by cases h), (fun h => by cases h), (fun h => by cases h), (fun h => by cases h), (fun h => by cases h), (fun h => by cases h), (fun h => by cases h), (fun h => by cases h), (fun h => by cases h), (fun h => by cases h), (fun h => by cases h), (fun h => by cases h), (fun h => by cases h), (fun h => by cases h), (fun h => by cases h), (fun h => by cases h), (fun h => by cases h)⟩
  · refine (.cons rfl ?_ (.cons rfl ?_ (.cons rfl ?_ (.cons rfl ?_ (.cons rfl ?_ (.cons rfl ?_ (.cons rfl ?_ (.cons rfl ?_ (.cons rfl ?_ (.cons rfl ?_ (.cons rfl ?_ (.cons rfl ?_ (.cons rfl ?_ (.cons rfl ?_ (.cons rfl ?_ (.cons rfl ?_ (.cons rfl ?_ (.nil _))))))))))))))))))
    · intro L v W2 hd hn ⟨hB, hz, s0, s1, s2, h0, h1, h2, h3, h4, h5, h6, h7, h8, h9, h10, h11, h12, h13, h14, h15, h16, d11_12, d11_13, d12_13⟩ K hK
      go_wp2_with fail
      exact hK _ (.int .i64 (p : Int)) _ (by simp only [Act.put, List.setIfInBounds_toArray, List.set_cons_zero, List.set_cons_succ ]) ⟨hB, hz, s0, s1, s2, (fun _ => rfl), h1, h2, h3, h4, h5, h6, h7, h8, h9, h10, h11, h12, h13, h14, h15, h16, d11_12, d11_13, d12_13⟩
    · intro L v W2 hd hn ⟨hB, hz, s0, s1, s2, h0, h1, h2, h3, h4, h5, h6, h7, h8, h9, h10, h11, h12, h13, h14, h15, h16, d11_12, d11_13, d12_13⟩ K hK
      go_wp2_with fail
      exact hK _ (.int .i64 (p : Int)) _ (by simp only [Act.put, List.setIfInBounds_toArray, List.set_cons_zero, List.set_cons_succ ]) ⟨hB, hz, s0, s1, s2, h0, (fun _ => rfl), h2, h3, h4, h5, h6, h7, h8, h9, h10, h11, h12, h13, h14, h15, h16, d11_12, d11_13, d12_13⟩
    · intro L v W2 hd hn ⟨hB, hz, s0, s1, s2, h0, h1, h2, h3, h4, h5, h6, h7, h8, h9, h10, h11, h12, h13, h14, h15, h16, d11_12, d11_13, d12_13⟩ K hK
      refine wp_load_any 25 _ rfl _ rfl 64 25 _ s0 _ Try.underlying25 rfl Try.size25 ?_
      exact hK _ _ _ rfl ⟨hB, hz, s0, s1, s2, h0, h1, (fun _ => rfl), h3, h4, h5, h6, h7, h8, h9, h10, h11, h12, h13, h14, h15, h16, d11_12, d11_13, d12_13⟩
    · intro L v W2 hd hn ⟨hB, hz, s0, s1, s2, h0, h1, h2, h3, h4, h5, h6, h7, h8, h9, h10, h11, h12, h13, h14, h15, h16, d11_12, d11_13, d12_13⟩ K hK
      refine wp_load_any 25 _ rfl _ rfl 64 25 _ s1 _ Try.underlying25 rfl Try.size25 ?_
      exact hK _ _ _ rfl ⟨hB, hz, s0, s1, s2, h0, h1, h2, (fun _ => rfl), h4, h5, h6, h7, h8, h9, h10, h11, h12, h13, h14, h15, h16, d11_12, d11_13, d12_13⟩
    · intro L v W2 hd hn ⟨hB, hz, s0, s1, s2, h0, h1, h2, h3, h4, h5, h6, h7, h8, h9, h10, h11, h12, h13, h14, h15, h16, d11_12, d11_13, d12_13⟩ K hK
      have e1 := h1 (hd ⟨1, .data⟩ (by simp) rfl)
      have e2 := h2 (hd ⟨2, .data⟩ (by simp) rfl)
      have e3 := h3 (hd ⟨3, .data⟩ (by simp) rfl)
      go_wp2_with (go_at_call 207; refine (HM.out _).mono ?_; rintro e wy ⟨rfl, hy⟩)
      exact hK _ (.agg (bcells 64 (resP p f m))) _ (by simp only [Act.put, List.setIfInBounds_toArray, List.set_cons_zero, List.set_cons_succ, e1, e2, e3]) ⟨hB.trans (hy.mono hB.size), (Nat.le_trans hz hy.size), (s0).below hy (s0).lt, (s1).below hy (s1).lt, (s2).below hy (s2).lt, h0, h1, h2, h3, (fun _ => rfl), h5, h6, h7, h8, h9, h10, (fun h => (h11 h).below hy), (fun h => (h12 h).below hy), (fun h => (h13 h).below hy), (fun h => (h14 h).below hy), (fun h => (h15 h).below hy), (fun h => (h16 h).below hy), d11_12, d11_13, d12_13⟩
    · intro L v W2 hd hn ⟨hB, hz, s0, s1, s2, h0, h1, h2, h3, h4, h5, h6, h7, h8, h9, h10, h11, h12, h13, h14, h15, h16, d11_12, d11_13, d12_13⟩ K hK
      refine wp_load_any 25 _ rfl _ rfl 64 25 _ s1 _ Try.underlying25 rfl Try.size25 ?_
      exact hK _ _ _ rfl ⟨hB, hz, s0, s1, s2, h0, h1, h2, h3, h4, (fun _ => rfl), h6, h7, h8, h9, h10, h11, h12, h13, h14, h15, h16, d11_12, d11_13, d12_13⟩
    · intro L v W2 hd hn ⟨hB, hz, s0, s1, s2, h0, h1, h2, h3, h4, h5, h6, h7, h8, h9, h10, h11, h12, h13, h14, h15, h16, d11_12, d11_13, d12_13⟩ K hK
      have e0 := h0 (hd ⟨0, .data⟩ (by simp) rfl)
      have e4 := h4 (hd ⟨4, .data⟩ (by simp) rfl)
      have e5 := h5 (hd ⟨5, .data⟩ (by simp) rfl)
      go_wp2_with (go_at_call 160; refine (HB.out _).mono ?_; rintro e wy ⟨rfl, hy⟩)
      exact hK _ (.tuple #[(.agg (bcells 64 (bzD p (resP p f m) m))), (.agg (bcells 64 (bzU p (resP p f m) m))), (.agg (bcells 64 (bzW p (resP p f m) m)))]) _ (by simp only [Act.put, List.setIfInBounds_toArray, List.set_cons_zero, List.set_cons_succ, e0, e4, e5]) ⟨hB.trans (hy.mono hB.size), (Nat.le_trans hz hy.size), (s0).below hy (s0).lt, (s1).below hy (s1).lt, (s2).below hy (s2).lt, h0, h1, h2, h3, h4, h5, (fun _ => rfl), h7, h8, h9, h10, (fun h => (h11 h).below hy), (fun h => (h12 h).below hy), (fun h => (h13 h).below hy), (fun h => (h14 h).below hy), (fun h => (h15 h).below hy), (fun h => (h16 h).below hy), d11_12, d11_13, d12_13⟩
    · intro L v W2 hd hn ⟨hB, hz, s0, s1, s2, h0, h1, h2, h3, h4, h5, h6, h7, h8, h9, h10, h11, h12, h13, h14, h15, h16, d11_12, d11_13, d12_13⟩ K hK
      have e6 := h6 (hd ⟨6, .data⟩ (by simp) rfl)
      go_wp2_with fail
      exact hK _ (.tuple #[(.agg (bcells 64 (bzD p (resP p f m) m))), (.agg (bcells 64 (bzU p (resP p f m) m))), (.agg (bcells 64 (bzW p (resP p f m) m)))]) _ (by simp only [Act.put, List.setIfInBounds_toArray, List.set_cons_zero, List.set_cons_succ, e6]) ⟨hB, hz, s0, s1, s2, h0, h1, h2, h3, h4, h5, h6, (fun _ => rfl), h8, h9, h10, h11, h12, h13, h14, h15, h16, d11_12, d11_13, d12_13⟩
    · intro L v W2 hd hn ⟨hB, hz, s0, s1, s2, h0, h1, h2, h3, h4, h5, h6, h7, h8, h9, h10, h11, h12, h13, h14, h15, h16, d11_12, d11_13, d12_13⟩ K hK
      have e7 := h7 (hd ⟨7, .data⟩ (by simp) rfl)
      go_wp2_with fail
      exact hK _ (.agg (bcells 64 (bzD p (resP p f m) m))) _ (by simp only [Act.put, List.setIfInBounds_toArray, List.set_cons_zero, List.set_cons_succ, e7]) ⟨hB, hz, s0, s1, s2, h0, h1, h2, h3, h4, h5, h6, h7, (fun _ => rfl), h9, h10, h11, h12, h13, h14, h15, h16, d11_12, d11_13, d12_13⟩
    · intro L v W2 hd hn ⟨hB, hz, s0, s1, s2, h0, h1, h2, h3, h4, h5, h6, h7, h8, h9, h10, h11, h12, h13, h14, h15, h16, d11_12, d11_13, d12_13⟩ K hK
      have e7 := h7 (hd ⟨7, .data⟩ (by simp) rfl)
      go_wp2_with fail
      exact hK _ (.agg (bcells 64 (bzU p (resP p f m) m))) _ (by simp only [Act.put, List.setIfInBounds_toArray, List.set_cons_zero, List.set_cons_succ, e7]) ⟨hB, hz, s0, s1, s2, h0, h1, h2, h3, h4, h5, h6, h7, h8, (fun _ => rfl), h10, h11, h12, h13, h14, h15, h16, d11_12, d11_13, d12_13⟩
    · intro L v W2 hd hn ⟨hB, hz, s0, s1, s2, h0, h1, h2, h3, h4, h5, h6, h7, h8, h9, h10, h11, h12, h13, h14, h15, h16, d11_12, d11_13, d12_13⟩ K hK
      have e7 := h7 (hd ⟨7, .data⟩ (by simp) rfl)
      go_wp2_with fail
      exact hK _ (.agg (bcells 64 (bzW p (resP p f m) m))) _ (by simp only [Act.put, List.setIfInBounds_toArray, List.set_cons_zero, List.set_cons_succ, e7]) ⟨hB, hz, s0, s1, s2, h0, h1, h2, h3, h4, h5, h6, h7, h8, h9, (fun _ => rfl), h11, h12, h13, h14, h15, h16, d11_12, d11_13, d12_13⟩
    · intro L v W2 hd hn ⟨hB, hz, s0, s1, s2, h0, h1, h2, h3, h4, h5, h6, h7, h8, h9, h10, h11, h12, h13, h14, h15, h16, d11_12, d11_13, d12_13⟩ K hK
      go_wp2_with fail
      rw [← zero64]
      exact hK _ (.pointer (some ⟨W2.heap.size, 0, none⟩)) _ (by simp only [Act.put, List.setIfInBounds_toArray, List.set_cons_zero, List.set_cons_succ ]) ⟨hB.alloc hB.size _, (by simp; omega), (s0).alloc _, (s1).alloc _, (s2).alloc _, h0, h1, h2, h3, h4, h5, h6, h7, h8, h9, h10, (fun _ => (PF.new W2 64 25 _ hz).af), (fun h => (h12 h).below (below_alloc' _ _)), (fun h => (h13 h).below (below_alloc' _ _)), (fun h => absurd rfl (hn 14 _ rfl h ⟨11, .data⟩ (by simp) rfl)), (fun h => (h15 h).below (below_alloc' _ _)), (fun h => (h16 h).below (below_alloc' _ _)), (fun h g1 => Ne.symm ((h12 g1).ne_new)), (fun h g1 => Ne.symm ((h13 g1).ne_new)), d12_13⟩
    · intro L v W2 hd hn ⟨hB, hz, s0, s1, s2, h0, h1, h2, h3, h4, h5, h6, h7, h8, h9, h10, h11, h12, h13, h14, h15, h16, d11_12, d11_13, d12_13⟩ K hK
      go_wp2_with fail
      rw [← zero64]
      exact hK _ (.pointer (some ⟨W2.heap.size, 0, none⟩)) _ (by simp only [Act.put, List.setIfInBounds_toArray, List.set_cons_zero, List.set_cons_succ ]) ⟨hB.alloc hB.size _, (by simp; omega), (s0).alloc _, (s1).alloc _, (s2).alloc _, h0, h1, h2, h3, h4, h5, h6, h7, h8, h9, h10, (fun h => (h11 h).below (below_alloc' _ _)), (fun _ => (PF.new W2 64 25 _ hz).af), (fun h => (h13 h).below (below_alloc' _ _)), (fun h => (h14 h).below (below_alloc' _ _)), (fun h => absurd rfl (hn 15 _ rfl h ⟨12, .data⟩ (by simp) rfl)), (fun h => (h16 h).below (below_alloc' _ _)), (fun h g1 => (h11 h).ne_new), d11_13, (fun h g1 => Ne.symm ((h13 g1).ne_new))⟩
    · intro L v W2 hd hn ⟨hB, hz, s0, s1, s2, h0, h1, h2, h3, h4, h5, h6, h7, h8, h9, h10, h11, h12, h13, h14, h15, h16, d11_12, d11_13, d12_13⟩ K hK
      go_wp2_with fail
      rw [← zero64]
      exact hK _ (.pointer (some ⟨W2.heap.size, 0, none⟩)) _ (by simp only [Act.put, List.setIfInBounds_toArray, List.set_cons_zero, List.set_cons_succ ]) ⟨hB.alloc hB.size _, (by simp; omega), (s0).alloc _, (s1).alloc _, (s2).alloc _, h0, h1, h2, h3, h4, h5, h6, h7, h8, h9, h10, (fun h => (h11 h).below (below_alloc' _ _)), (fun h => (h12 h).below (below_alloc' _ _)), (fun _ => (PF.new W2 64 25 _ hz).af), (fun h => (h14 h).below (below_alloc' _ _)), (fun h => (h15 h).below (below_alloc' _ _)), (fun h => absurd rfl (hn 16 _ rfl h ⟨13, .data⟩ (by simp) rfl)), d11_12, (fun h g1 => (h11 h).ne_new), (fun h g1 => (h12 h).ne_new)⟩
    · intro L v W2 hd hn ⟨hB, hz, s0, s1, s2, h0, h1, h2, h3, h4, h5, h6, h7, h8, h9, h10, h11, h12, h13, h14, h15, h16, d11_12, d11_13, d12_13⟩ K hK
      have e8 := h8 (hd ⟨8, .data⟩ (by simp) rfl)
      obtain ⟨gz, b, ea, hN, hk⟩ := (h11 (hd ⟨11, .data⟩ (by simp) rfl)).out
      refine wp_store_blk 25 _ _ rfl b 64 (bzD p (resP p f m) m) ea e8 25 gz hk Try.size25 ?_
      exact hK _ undef _ rfl ⟨below_row hB (Nat.le_trans hbase hN) _, (by simpa [World.setRow] using hz), (s0).rowOther (by omega), (s1).rowOther (by omega), (s2).rowOther (by omega), h0, h1, h2, h3, h4, h5, h6, h7, h8, h9, h10, (fun h => (h11 h).row hk), (fun h => (h12 h).row hk), (fun h => (h13 h).row hk), (fun _ => by rw [show updV v 14 undef 11 = v 11 from rfl, ea]; exact PF.row hk hN _), (fun h => (h15 h).rowOther (by rw [← ea]; exact (Ne.symm (d11_12 (hd ⟨11, .data⟩ (by simp) rfl) (hd ⟨12, .phase⟩ (by simp) rfl))))), (fun h => (h16 h).rowOther (by rw [← ea]; exact (Ne.symm (d11_13 (hd ⟨11, .data⟩ (by simp) rfl) (hd ⟨13, .phase⟩ (by simp) rfl))))), d11_12, d11_13, d12_13⟩
    · intro L v W2 hd hn ⟨hB, hz, s0, s1, s2, h0, h1, h2, h3, h4, h5, h6, h7, h8, h9, h10, h11, h12, h13, h14, h15, h16, d11_12, d11_13, d12_13⟩ K hK
      have e9 := h9 (hd ⟨9, .data⟩ (by simp) rfl)
      obtain ⟨gz, b, ea, hN, hk⟩ := (h12 (hd ⟨12, .data⟩ (by simp) rfl)).out
      refine wp_store_blk 25 _ _ rfl b 64 (bzU p (resP p f m) m) ea e9 25 gz hk Try.size25 ?_
      exact hK _ undef _ rfl ⟨below_row hB (Nat.le_trans hbase hN) _, (by simpa [World.setRow] using hz), (s0).rowOther (by omega), (s1).rowOther (by omega), (s2).rowOther (by omega), h0, h1, h2, h3, h4, h5, h6, h7, h8, h9, h10, (fun h => (h11 h).row hk), (fun h => (h12 h).row hk), (fun h => (h13 h).row hk), (fun h => (h14 h).rowOther (by rw [← ea]; exact (d11_12 (hd ⟨11, .phase⟩ (by simp) rfl) (hd ⟨12, .data⟩ (by simp) rfl)))), (fun _ => by rw [show updV v 15 undef 12 = v 12 from rfl, ea]; exact PF.row hk hN _), (fun h => (h16 h).rowOther (by rw [← ea]; exact (Ne.symm (d12_13 (hd ⟨12, .data⟩ (by simp) rfl) (hd ⟨13, .phase⟩ (by simp) rfl))))), d11_12, d11_13, d12_13⟩
    · intro L v W2 hd hn ⟨hB, hz, s0, s1, s2, h0, h1, h2, h3, h4, h5, h6, h7, h8, h9, h10, h11, h12, h13, h14, h15, h16, d11_12, d11_13, d12_13⟩ K hK
      have e10 := h10 (hd ⟨10, .data⟩ (by simp) rfl)
      obtain ⟨gz, b, ea, hN, hk⟩ := (h13 (hd ⟨13, .data⟩ (by simp) rfl)).out
      refine wp_store_blk 25 _ _ rfl b 64 (bzW p (resP p f m) m) ea e10 25 gz hk Try.size25 ?_
      exact hK _ undef _ rfl ⟨below_row hB (Nat.le_trans hbase hN) _, (by simpa [World.setRow] using hz), (s0).rowOther (by omega), (s1).rowOther (by omega), (s2).rowOther (by omega), h0, h1, h2, h3, h4, h5, h6, h7, h8, h9, h10, (fun h => (h11 h).row hk), (fun h => (h12 h).row hk), (fun h => (h13 h).row hk), (fun h => (h14 h).rowOther (by rw [← ea]; exact (d11_13 (hd ⟨11, .phase⟩ (by simp) rfl) (hd ⟨13, .data⟩ (by simp) rfl)))), (fun h => (h15 h).rowOther (by rw [← ea]; exact (d12_13 (hd ⟨12, .phase⟩ (by simp) rfl) (hd ⟨13, .data⟩ (by simp) rfl)))), (fun _ => by rw [show updV v 16 undef 13 = v 13 from rfl, ea]; exact PF.row hk hN _), d11_12, d11_13, d12_13⟩
  · intro L v W2 hL ⟨hB, hz, s0, s1, s2, h0, h1, h2, h3, h4, h5, h6, h7, h8, h9, h10, h11, h12, h13, h14, h15, h16, d11_12, d11_13, d12_13⟩
    have e0 := h0 (hL 0 (by decide))
    have e1 := h1 (hL 1 (by decide))
    have e2 := h2 (hL 2 (by decide))
    have e3 := h3 (hL 3 (by decide))
    have e4 := h4 (hL 4 (by decide))
    have e5 := h5 (hL 5 (by decide))
    have e6 := h6 (hL 6 (by decide))
    have e7 := h7 (hL 7 (by decide))
    have e8 := h8 (hL 8 (by decide))
    have e9 := h9 (hL 9 (by decide))
    have e10 := h10 (hL 10 (by decide))
    obtain ⟨k1_11, e11, hNk1_11, hk1_11⟩ := (h14 (hL 14 (by decide))).out
    obtain ⟨k1_12, e12, hNk1_12, hk1_12⟩ := (h15 (hL 15 (by decide))).out
    obtain ⟨k1_13, e13, hNk1_13, hk1_13⟩ := (h16 (hL 16 (by decide))).out
    have n11_12 := d11_12 (hL 11 (by decide)) (hL 12 (by decide))
    have n11_13 := d11_13 (hL 11 (by decide)) (hL 13 (by decide))
    have n12_13 := d12_13 (hL 12 (by decide)) (hL 13 (by decide))
    clear hL h0 h1 h2 h3 h4 h5 h6 h7 h8 h9 h10 h11 h12 h13 h14 h15 h16 d11_12 d11_13 d12_13
    rw [e11, e12] at n11_12
    have mk1_11_12 : k1_11 ≠ k1_12 := fun h => n11_12 (by rw [h])
    clear n11_12
    rw [e11, e13] at n11_13
    have mk1_11_13 : k1_11 ≠ k1_13 := fun h => n11_13 (by rw [h])
    clear n11_13
    rw [e12, e13] at n12_13
    have mk1_12_13 : k1_12 ≠ k1_13 := fun h => n12_13 (by rw [h])
    clear n12_13
    simp only [Exit.then, e0, e1, e2, e3, e4, e5, e6, e7, e8, e9, e10, e11, e12, e13]
    clear e0 e1 e2 e3 e4 e5 e6 e7 e8 e9 e10 e11 e12 e13
    clear B0
    have B0 := s0
    clear s0
    clear B1
    have B1 := s1
    clear s1
    clear B2
    have B2 := s2
    clear s2
    clear hb
    have hb := hB
    clear hB
    have B3 := hk1_11
    clear hk1_11
    have zk1_11_0 : w.heap.size < k1_11 := by omega
    have zk1_11_1 : w.heap.size + 1 < k1_11 := by omega
    have zk1_11_2 : w.heap.size + 1 + 1 < k1_11 := by omega
    have B4 := hk1_12
    clear hk1_12
    have zk1_12_0 : w.heap.size < k1_12 := by omega
    have zk1_12_1 : w.heap.size + 1 < k1_12 := by omega
    have zk1_12_2 : w.heap.size + 1 + 1 < k1_12 := by omega
    have B5 := hk1_13
    clear hk1_13
    have zk1_13_0 : w.heap.size < k1_13 := by omega
    have zk1_13_1 : w.heap.size + 1 < k1_13 := by omega
    have zk1_13_2 : w.heap.size + 1 + 1 < k1_13 := by omega
    clear hbase hz lt_B0 lt_B1 lt_B2
    go_upto_region 2 with (fail)
    have lt_B0 := B0.lt
    have lt_B1 := B1.lt
    have lt_B2 := B2.lt
    have lt_B3 := B3.lt
    have lt_B4 := B4.lt
    have lt_B5 := B5.lt
    go_wp2_with (first | rw [← zero64] | (refine wpList_load_any rfl 25 (.tmp 8) rfl _ rfl 64 25 _ (B4) _ Try.underlying25 rfl Try.size25 ?_) | (refine wpList_load_any rfl 25 (.tmp 5) rfl _ rfl 64 25 _ (B1) _ Try.underlying25 rfl Try.size25 ?_) | (go_at_call 207; refine (HM2.out _).mono ?_; rintro e W3 ⟨rfl, hW3⟩; replace B0 := B0.below hW3 B0.lt; replace B1 := B1.below hW3 B1.lt; replace B2 := B2.below hW3 B2.lt; replace B3 := B3.below hW3 B3.lt; replace B4 := B4.below hW3 B4.lt; replace B5 := B5.below hW3 B5.lt; replace hb := (hb).trans (hW3.mono (hb).size)) | (refine wpList_store_blk rfl 25 (.tmp 6) (.tmp 24) rfl _ 64 (resP p (bzU p (resP p f m) m) m) rfl rfl 25 _ (B2) Try.size25 ?_; try simp only [Act.put]))
    have qB0 : Blk (W3.setRow (w.heap.size + 1 + 1) (bcells 64 (resP p (bzU p (resP p f m) m) m))) (w.heap.size) 64 25 (f) := (B0.rowOther (by omega))
    have qB1 : Blk (W3.setRow (w.heap.size + 1 + 1) (bcells 64 (resP p (bzU p (resP p f m) m) m))) (w.heap.size + 1) 64 25 (m) := (B1.rowOther (by omega))
    have qB2 : Blk (W3.setRow (w.heap.size + 1 + 1) (bcells 64 (resP p (bzU p (resP p f m) m) m))) (w.heap.size + 1 + 1) 64 25 (resP p (bzU p (resP p f m) m) m) := (B2.row (resP p (bzU p (resP p f m) m) m))
    have qB3 : Blk (W3.setRow (w.heap.size + 1 + 1) (bcells 64 (resP p (bzU p (resP p f m) m) m))) (k1_11) 64 25 (bzD p (resP p f m) m) := (B3.rowOther (by omega))
    have qB4 : Blk (W3.setRow (w.heap.size + 1 + 1) (bcells 64 (resP p (bzU p (resP p f m) m) m))) (k1_12) 64 25 (bzU p (resP p f m) m) := (B4.rowOther (by omega))
    have qB5 : Blk (W3.setRow (w.heap.size + 1 + 1) (bcells 64 (resP p (bzU p (resP p f m) m) m))) (k1_13) 64 25 (bzW p (resP p f m) m) := (B5.rowOther (by omega))
    have qhb : Below w.heap.size w (W3.setRow (w.heap.size + 1 + 1) (bcells 64 (resP p (bzU p (resP p f m) m) m))) := (below_row hb (by omega) _)
    obtain ⟨W4, hwo⟩ : ∃ v : World, v = (W3.setRow (w.heap.size + 1 + 1) (bcells 64 (resP p (bzU p (resP p f m) m) m))) := ⟨_, rfl⟩
    rw [← hwo] at qB0 qB1 qB2 qB3 qB4 qB5 qhb ⊢
    clear hwo
    clear B0 B1 B2 B3 B4 B5 hb
    have B0 := qB0
    have B1 := qB1
    have B2 := qB2
    have B3 := qB3
    have B4 := qB4
    have B5 := qB5
    have hb := qhb
    clear qB0 qB1 qB2 qB3 qB4 qB5 qhb
    try simp only [Act.put, List.setIfInBounds_toArray, List.set_cons_zero, List.set_cons_succ]
    refine bodyPost_ret (results_blk rfl _ _ _ 64 25 5 _ rfl B2 Try.underlying25 Try.size25) rfl ⟨by rw [HV.out], hb⟩
/-- both answers -/
def invV (p : Int) (f m : Nat → Nat) : (Nat → Nat) × Int := if modV p m [f] = 0 then (if eqN 64 (bzD p.toNat f m) oneP = true then (bzU p.toNat f m, 0) else (fun _ => 0, 4)) else (fun _ => 0, modV p m [f])
theorem invV_code {p c : Int} {f m : Nat → Nat} (h : modV p m [f] = c) (h2 : c ≠ 0) : invV p f m = (fun _ => 0, c) := by unfold invV; rw [h, if_neg h2]
theorem invV_no {n : Nat} {f m : Nat → Nat} (h : modV (n : Int) m [f] = 0) (h2 : eqN 64 (bzD n f m) oneP = false) : invV (n : Int) f m = (fun _ => 0, 4) := by
  unfold invV; rw [if_pos h, Int.toNat_natCast, if_neg (by rw [h2]; simp)]
theorem invV_ok {n : Nat} {f m : Nat → Nat} (h : modV (n : Int) m [f] = 0) (h2 : eqN 64 (bzD n f m) oneP = true) : invV (n : Int) f m = (bzU n f m, 0) := by
  unfold invV; rw [if_pos h, Int.toNat_natCast, if_pos h2]
theorem modV_cases {p : Int} {m : Nat → Nat} {fs : List (Nat → Nat)} : (∃ c, modV p m fs = c ∧ c ≠ 0 ∧ (c = 1 ∨ c = 2)) ∨ (modV p m fs = 0 ∧ codeL p [m] = 0 ∧ codeL p fs = 0 ∧ monUp 5 m = true) := by
  rcases codeL_two p [m] with h1 | h1
  · rcases codeL_two p fs with h2 | h2
    · cases h : monUp 5 m with
      | false => exact .inl ⟨2, modV_3 h1 h2 h, by decide, .inr rfl⟩
      | true => exact .inr ⟨modV_0 h1 h2 h, h1, h2, rfl⟩
    · exact .inl ⟨1, modV_2 h2, by decide, .inl rfl⟩
  · exact .inl ⟨1, modV_1 h1, by decide, .inl rfl⟩
set_option maxRecDepth 100000 in
set_option maxHeartbeats 1600000 in
theorem impl_InverseModulo_any (p : Int) (f m : Nat → Nat) (hf : byte f) (hm : byte m) (w : World) :
    Calls Try.prog 108 #[.int .i64 p, .agg (bcells 64 f), .agg (bcells 64 m)] w fun e w' => e = .returned (.tuple #[.agg (bcells 64 (invV p f m).1), .int .i64 (invV p f m).2]) ∧ Below w.heap.size w w' := by
  go_enter Try.func108, Try.ntmps108
  go_upto_region 1 with (fail)
  rw [← zero64]
  obtain ⟨W1, hwo⟩ : ∃ v : World, v = (((w.alloc (.cells (bcells 64 (f)) 25)).alloc (.cells (bcells 64 (m)) 25)).alloc (.cells (bcells 64 fun _ => 0) 25)) := ⟨_, rfl⟩
  have B0 : Blk W1 (w.heap.size) 64 25 (f) := by subst hwo; have := (((Blk.new w 64 25 (f)).alloc (.cells (bcells 64 (m)) 25)).alloc (.cells (bcells 64 fun _ => 0) 25)); simpa using this
  have B1 : Blk W1 (w.heap.size + 1) 64 25 (m) := by subst hwo; have := ((Blk.new (w.alloc (.cells (bcells 64 (f)) 25)) 64 25 (m)).alloc (.cells (bcells 64 fun _ => 0) 25)); simpa using this
  have B2 : Blk W1 (w.heap.size + 1 + 1) 64 25 (fun _ => 0) := by subst hwo; have := (Blk.new ((w.alloc (.cells (bcells 64 (f)) 25)).alloc (.cells (bcells 64 (m)) 25)) 64 25 (fun _ => 0)); simpa using this
  have hb : Below w.heap.size w W1 := by subst hwo; exact ((((Below.refl _ _).alloc (Nat.le_refl _) _).alloc (by simp) _).alloc (by simp; omega) _)
  rw [← hwo]
  clear hwo
  go_upto_region 2 with (first | (refine wpList_load_any rfl 25 (.tmp 5) rfl _ rfl 64 25 _ B1 _ Try.underlying25 rfl Try.size25 ?_) | (refine wpList_load_any rfl 25 (.tmp 4) rfl _ rfl 64 25 _ B0 _ Try.underlying25 rfl Try.size25 ?_) | (refine wpList_build_polys rfl 57 _ [f] rfl 25 rfl Try.underlying57 Try.elem25 (by simp) (by simp) rfl ?_; intro wa hwa hps hba; clear hwa) | (go_at_call 197; refine (checkModulus_any p m hm [f] (by simp [hf]) _ _ hps (by simp)).mono ?_; rintro e W2 ⟨rfl, hbb⟩))
  have hBB : Below W1.heap.size W1 W2 := hba.trans (hbb.mono hba.size)
  replace B0 := B0.below hBB B0.lt
  replace B1 := B1.below hBB B1.lt
  replace B2 := B2.below hBB B2.lt
  replace hb := hb.trans (hBB.mono hb.size)
  clear hBB hba hbb hps
  rcases modV_cases (p := p) (m := m) (fs := [f]) with ⟨c, hc, hc0, hc12⟩ | ⟨hc, hcm, hcf, hm5⟩
  · have HV := Lib.hid (invV_code hc hc0)
    rw [hc]
    clear hc
    have hb1 : ((c : Int) != 0) = true := by simp [hc0]
    go_upto_region 3 with (fail)
    have lt_B0 := B0.lt
    have lt_B1 := B1.lt
    have lt_B2 := B2.lt
    go_wp2_with (first | rw [← zero64] | (refine wpList_store_blk rfl 25 (.tmp 6) (.tmp 19) rfl _ 64 (fun _ => 0) rfl rfl 25 _ (B2) Try.size25 ?_; try simp only [Act.put]; go_wp2_with fail))
    have qB0 : Blk (W2.setRow (w.heap.size + 1 + 1) (bcells 64 (fun _ => 0))) (w.heap.size) 64 25 (f) := (B0.rowOther (by omega))
    have qB1 : Blk (W2.setRow (w.heap.size + 1 + 1) (bcells 64 (fun _ => 0))) (w.heap.size + 1) 64 25 (m) := (B1.rowOther (by omega))
    have qB2 : Blk (W2.setRow (w.heap.size + 1 + 1) (bcells 64 (fun _ => 0))) (w.heap.size + 1 + 1) 64 25 (fun _ => 0) := (B2.row (fun _ => 0))
    have qhb : Below w.heap.size w (W2.setRow (w.heap.size + 1 + 1) (bcells 64 (fun _ => 0))) := (below_row hb (by omega) _)
    obtain ⟨W11, hwo⟩ : ∃ v : World, v = (W2.setRow (w.heap.size + 1 + 1) (bcells 64 (fun _ => 0))) := ⟨_, rfl⟩
    rw [← hwo] at qB0 qB1 qB2 qhb ⊢
    clear hwo
    clear B0 B1 B2 hb
    have B0 := qB0
    have B1 := qB1
    have B2 := qB2
    have hb := qhb
    clear qB0 qB1 qB2 qhb
    try simp only [Act.put, List.setIfInBounds_toArray, List.set_cons_zero, List.set_cons_succ]
    refine bodyPost_ret (results_bt rfl _ _ _ 64 25 5 _ rfl B2 Try.underlying25 Try.size25) rfl ⟨by first | (rw [HV.out]; rfl) | rw [HV.out], hb⟩
  · obtain ⟨n, hn, n2, n7⟩ := okP_nat (codeL_zero hcf).1
    subst hn
    have lf := lt_of_code hcf (f := f) (by simp)
    have lm := lt_of_code hcm (f := m) (by simp)
    have hpr := prime_of hcf
    obtain ⟨d, hmon, hd1, hd5⟩ := mon_up hm5
    have h0 : 0 ≤ deg m := by rw [hmon.1]; omega
    cases hu : eqN 64 (bzD n f m) oneP with
    | false =>
      have HV := Lib.hid (invV_no hc hu)
      have HB := Lib.hid (fun W => bezout_any n f m W hpr lf lm (.inr h0))
      have hgd := Try.noGuard25
      have heq := fun W => run_equalIn_bytes (P := Try.prog) W 9998 25 5 64 (bzD n f m) oneP Try.underlying25 Try.underlying5 Try.size5
      rw [hu] at heq
      simp only [one64] at heq
      rw [hc]
      clear hc hmon hd1 hd5 hm5 hcm hcf hu
      go_upto_region 4 with (fail)
      have lt_B0 := B0.lt
      have lt_B1 := B1.lt
      have lt_B2 := B2.lt
      go_upto_region 5 with (first | rw [← zero64] | (refine wpList_load_any rfl 25 (.tmp 4) rfl _ rfl 64 25 _ (B0) _ Try.underlying25 rfl Try.size25 ?_) | (refine wpList_load_any rfl 25 (.tmp 5) rfl _ rfl 64 25 _ (B1) _ Try.underlying25 rfl Try.size25 ?_) | (go_at_call 158; refine (HB.out _).mono ?_; rintro e W11 ⟨rfl, hW11⟩; replace B0 := B0.below hW11 B0.lt; replace B1 := B1.below hW11 B1.lt; replace B2 := B2.below hW11 B2.lt; replace hb := (hb).trans (hW11.mono (hb).size)) | (refine wpList_store_blk rfl 25 (.tmp 9) (.tmp 26) rfl _ 64 (bzD n f m) rfl rfl 25 _ ((((Blk.new W11 64 25 (fun _ => 0)).alloc (.cells (bcells 64 fun _ => 0) 25)).alloc (.cells (bcells 64 fun _ => 0) 25))) Try.size25 ?_; try simp only [Act.put]) | (refine wpList_store_blk rfl 25 (.tmp 10) (.tmp 27) rfl _ 64 (bzU n f m) rfl rfl 25 _ ((((show Blk ((W11.alloc (.cells (bcells 64 fun _ => 0) 25)).alloc (.cells (bcells 64 fun _ => 0) 25)) (W11.heap.size + 1) 64 25 (fun _ => 0) by have := Blk.new (W11.alloc (.cells (bcells 64 fun _ => 0) 25)) 64 25 (fun _ => 0); simpa using this).alloc (.cells (bcells 64 fun _ => 0) 25)).rowOther (by omega))) Try.size25 ?_; try simp only [Act.put]) | (refine wpList_store_blk rfl 25 (.tmp 11) (.tmp 28) rfl _ 64 (bzW n f m) rfl rfl 25 _ ((((show Blk (((W11.alloc (.cells (bcells 64 fun _ => 0) 25)).alloc (.cells (bcells 64 fun _ => 0) 25)).alloc (.cells (bcells 64 fun _ => 0) 25)) (W11.heap.size + 1 + 1) 64 25 (fun _ => 0) by have := Blk.new ((W11.alloc (.cells (bcells 64 fun _ => 0) 25)).alloc (.cells (bcells 64 fun _ => 0) 25)) 64 25 (fun _ => 0); simpa using this).rowOther (by omega)).rowOther (by omega))) Try.size25 ?_; try simp only [Act.put]))
      have lt_B0 := B0.lt
      have lt_B1 := B1.lt
      have lt_B2 := B2.lt
      have lhb := hb.size
      have qB0 : Blk ((((((W11.alloc (.cells (bcells 64 fun _ => 0) 25)).alloc (.cells (bcells 64 fun _ => 0) 25)).alloc (.cells (bcells 64 fun _ => 0) 25)).setRow (W11.heap.size) (bcells 64 (bzD n f m))).setRow (W11.heap.size + 1) (bcells 64 (bzU n f m))).setRow (W11.heap.size + 1 + 1) (bcells 64 (bzW n f m))) (w.heap.size) 64 25 (f) := ((((((B0.alloc (.cells (bcells 64 fun _ => 0) 25)).alloc (.cells (bcells 64 fun _ => 0) 25)).alloc (.cells (bcells 64 fun _ => 0) 25)).rowOther (by omega)).rowOther (by omega)).rowOther (by omega))
      have qB1 : Blk ((((((W11.alloc (.cells (bcells 64 fun _ => 0) 25)).alloc (.cells (bcells 64 fun _ => 0) 25)).alloc (.cells (bcells 64 fun _ => 0) 25)).setRow (W11.heap.size) (bcells 64 (bzD n f m))).setRow (W11.heap.size + 1) (bcells 64 (bzU n f m))).setRow (W11.heap.size + 1 + 1) (bcells 64 (bzW n f m))) (w.heap.size + 1) 64 25 (m) := ((((((B1.alloc (.cells (bcells 64 fun _ => 0) 25)).alloc (.cells (bcells 64 fun _ => 0) 25)).alloc (.cells (bcells 64 fun _ => 0) 25)).rowOther (by omega)).rowOther (by omega)).rowOther (by omega))
      have qB2 : Blk ((((((W11.alloc (.cells (bcells 64 fun _ => 0) 25)).alloc (.cells (bcells 64 fun _ => 0) 25)).alloc (.cells (bcells 64 fun _ => 0) 25)).setRow (W11.heap.size) (bcells 64 (bzD n f m))).setRow (W11.heap.size + 1) (bcells 64 (bzU n f m))).setRow (W11.heap.size + 1 + 1) (bcells 64 (bzW n f m))) (w.heap.size + 1 + 1) 64 25 (fun _ => 0) := ((((((B2.alloc (.cells (bcells 64 fun _ => 0) 25)).alloc (.cells (bcells 64 fun _ => 0) 25)).alloc (.cells (bcells 64 fun _ => 0) 25)).rowOther (by omega)).rowOther (by omega)).rowOther (by omega))
      have qB3 : Blk ((((((W11.alloc (.cells (bcells 64 fun _ => 0) 25)).alloc (.cells (bcells 64 fun _ => 0) 25)).alloc (.cells (bcells 64 fun _ => 0) 25)).setRow (W11.heap.size) (bcells 64 (bzD n f m))).setRow (W11.heap.size + 1) (bcells 64 (bzU n f m))).setRow (W11.heap.size + 1 + 1) (bcells 64 (bzW n f m))) (W11.heap.size) 64 25 (bzD n f m) := ((((((Blk.new W11 64 25 (fun _ => 0)).alloc (.cells (bcells 64 fun _ => 0) 25)).alloc (.cells (bcells 64 fun _ => 0) 25)).row (bzD n f m)).rowOther (by omega)).rowOther (by omega))
      have qB4 : Blk ((((((W11.alloc (.cells (bcells 64 fun _ => 0) 25)).alloc (.cells (bcells 64 fun _ => 0) 25)).alloc (.cells (bcells 64 fun _ => 0) 25)).setRow (W11.heap.size) (bcells 64 (bzD n f m))).setRow (W11.heap.size + 1) (bcells 64 (bzU n f m))).setRow (W11.heap.size + 1 + 1) (bcells 64 (bzW n f m))) (W11.heap.size + 1) 64 25 (bzU n f m) := (((((show Blk ((W11.alloc (.cells (bcells 64 fun _ => 0) 25)).alloc (.cells (bcells 64 fun _ => 0) 25)) (W11.heap.size + 1) 64 25 (fun _ => 0) by have := Blk.new (W11.alloc (.cells (bcells 64 fun _ => 0) 25)) 64 25 (fun _ => 0); simpa using this).alloc (.cells (bcells 64 fun _ => 0) 25)).rowOther (by omega)).row (bzU n f m)).rowOther (by omega))
      have qB5 : Blk ((((((W11.alloc (.cells (bcells 64 fun _ => 0) 25)).alloc (.cells (bcells 64 fun _ => 0) 25)).alloc (.cells (bcells 64 fun _ => 0) 25)).setRow (W11.heap.size) (bcells 64 (bzD n f m))).setRow (W11.heap.size + 1) (bcells 64 (bzU n f m))).setRow (W11.heap.size + 1 + 1) (bcells 64 (bzW n f m))) (W11.heap.size + 1 + 1) 64 25 (bzW n f m) := ((((show Blk (((W11.alloc (.cells (bcells 64 fun _ => 0) 25)).alloc (.cells (bcells 64 fun _ => 0) 25)).alloc (.cells (bcells 64 fun _ => 0) 25)) (W11.heap.size + 1 + 1) 64 25 (fun _ => 0) by have := Blk.new ((W11.alloc (.cells (bcells 64 fun _ => 0) 25)).alloc (.cells (bcells 64 fun _ => 0) 25)) 64 25 (fun _ => 0); simpa using this).rowOther (by omega)).rowOther (by omega)).row (bzW n f m))
      have qhb : Below w.heap.size w ((((((W11.alloc (.cells (bcells 64 fun _ => 0) 25)).alloc (.cells (bcells 64 fun _ => 0) 25)).alloc (.cells (bcells 64 fun _ => 0) 25)).setRow (W11.heap.size) (bcells 64 (bzD n f m))).setRow (W11.heap.size + 1) (bcells 64 (bzU n f m))).setRow (W11.heap.size + 1 + 1) (bcells 64 (bzW n f m))) := (below_row (below_row (below_row (((hb.alloc (by have := hb.size; simp; omega) (.cells (bcells 64 fun _ => 0) 25)).alloc (by have := hb.size; simp; omega) (.cells (bcells 64 fun _ => 0) 25)).alloc (by have := hb.size; simp; omega) (.cells (bcells 64 fun _ => 0) 25)) (by omega) _) (by omega) _) (by omega) _)
      obtain ⟨W12, hwo⟩ : ∃ v : World, v = ((((((W11.alloc (.cells (bcells 64 fun _ => 0) 25)).alloc (.cells (bcells 64 fun _ => 0) 25)).alloc (.cells (bcells 64 fun _ => 0) 25)).setRow (W11.heap.size) (bcells 64 (bzD n f m))).setRow (W11.heap.size + 1) (bcells 64 (bzU n f m))).setRow (W11.heap.size + 1 + 1) (bcells 64 (bzW n f m))) := ⟨_, rfl⟩
      rw [← hwo] at qB0 qB1 qB2 qB3 qB4 qB5 qhb ⊢
      clear hwo
      clear B0 B1 B2 hb
      have B0 := qB0
      have B1 := qB1
      have B2 := qB2
      have B3 := qB3
      have B4 := qB4
      have B5 := qB5
      have hb := qhb
      clear qB0 qB1 qB2 qB3 qB4 qB5 qhb
      obtain ⟨N1, hNN⟩ : ∃ n : Nat, n = W11.heap.size := ⟨_, rfl⟩
      rw [← hNN] at lt_B0 lt_B1 lt_B2 lhb B3 B4 B5 ⊢
      clear hNN
      have zN1_0 := lt_B0
      have zN1_1 := lt_B1
      have zN1_2 := lt_B2
      have zN1 := lhb
      clear lt_B0 lt_B1 lt_B2 lhb
      try simp only [Act.put, List.setIfInBounds_toArray, List.set_cons_zero, List.set_cons_succ]
      go_upto_region 6 with (first | (refine wpList_load_any rfl 25 (.tmp 9) rfl _ rfl 64 25 _ (B3) _ Try.underlying25 rfl Try.size25 ?_))
      clear heq hgd
      have lt_B0 := B0.lt
      have lt_B1 := B1.lt
      have lt_B2 := B2.lt
      have lt_B3 := B3.lt
      have lt_B4 := B4.lt
      have lt_B5 := B5.lt
      go_wp2_with (first | rw [← zero64] | (refine wpList_store_blk rfl 25 (.tmp 6) (.tmp 32) rfl _ 64 (fun _ => 0) rfl rfl 25 _ (B2) Try.size25 ?_; try simp only [Act.put]; go_wp2_with fail))
      have qB0 : Blk (W12.setRow (w.heap.size + 1 + 1) (bcells 64 (fun _ => 0))) (w.heap.size) 64 25 (f) := (B0.rowOther (by omega))
      have qB1 : Blk (W12.setRow (w.heap.size + 1 + 1) (bcells 64 (fun _ => 0))) (w.heap.size + 1) 64 25 (m) := (B1.rowOther (by omega))
      have qB2 : Blk (W12.setRow (w.heap.size + 1 + 1) (bcells 64 (fun _ => 0))) (w.heap.size + 1 + 1) 64 25 (fun _ => 0) := (B2.row (fun _ => 0))
      have qB3 : Blk (W12.setRow (w.heap.size + 1 + 1) (bcells 64 (fun _ => 0))) (N1) 64 25 (bzD n f m) := (B3.rowOther (by omega))
      have qB4 : Blk (W12.setRow (w.heap.size + 1 + 1) (bcells 64 (fun _ => 0))) (N1 + 1) 64 25 (bzU n f m) := (B4.rowOther (by omega))
      have qB5 : Blk (W12.setRow (w.heap.size + 1 + 1) (bcells 64 (fun _ => 0))) (N1 + 1 + 1) 64 25 (bzW n f m) := (B5.rowOther (by omega))
      have qhb : Below w.heap.size w (W12.setRow (w.heap.size + 1 + 1) (bcells 64 (fun _ => 0))) := (below_row hb (by omega) _)
      obtain ⟨W13, hwo⟩ : ∃ v : World, v = (W12.setRow (w.heap.size + 1 + 1) (bcells 64 (fun _ => 0))) := ⟨_, rfl⟩
      rw [← hwo] at qB0 qB1 qB2 qB3 qB4 qB5 qhb ⊢
      clear hwo
      clear B0 B1 B2 B3 B4 B5 hb
      have B0 := qB0
      have B1 := qB1
      have B2 := qB2
      have B3 := qB3
      have B4 := qB4
      have B5 := qB5
      have hb := qhb
      clear qB0 qB1 qB2 qB3 qB4 qB5 qhb
      try simp only [Act.put, List.setIfInBounds_toArray, List.set_cons_zero, List.set_cons_succ]
      refine bodyPost_ret (results_bt rfl _ _ _ 64 25 5 _ rfl B2 Try.underlying25 Try.size25) rfl ⟨by first | (rw [HV.out]; rfl) | rw [HV.out], hb⟩
    | true =>
      have HV := Lib.hid (invV_ok hc hu)
      have HB := Lib.hid (fun W => bezout_any n f m W hpr lf lm (.inr h0))
      have hgd := Try.noGuard25
      have heq := fun W => run_equalIn_bytes (P := Try.prog) W 9998 25 5 64 (bzD n f m) oneP Try.underlying25 Try.underlying5 Try.size5
      rw [hu] at heq
      simp only [one64] at heq
      rw [hc]
      clear hc hmon hd1 hd5 hm5 hcm hcf hu
      go_upto_region 4 with (fail)
      have lt_B0 := B0.lt
      have lt_B1 := B1.lt
      have lt_B2 := B2.lt
      go_upto_region 5 with (first | rw [← zero64] | (refine wpList_load_any rfl 25 (.tmp 4) rfl _ rfl 64 25 _ (B0) _ Try.underlying25 rfl Try.size25 ?_) | (refine wpList_load_any rfl 25 (.tmp 5) rfl _ rfl 64 25 _ (B1) _ Try.underlying25 rfl Try.size25 ?_) | (go_at_call 158; refine (HB.out _).mono ?_; rintro e W11 ⟨rfl, hW11⟩; replace B0 := B0.below hW11 B0.lt; replace B1 := B1.below hW11 B1.lt; replace B2 := B2.below hW11 B2.lt; replace hb := (hb).trans (hW11.mono (hb).size)) | (refine wpList_store_blk rfl 25 (.tmp 9) (.tmp 26) rfl _ 64 (bzD n f m) rfl rfl 25 _ ((((Blk.new W11 64 25 (fun _ => 0)).alloc (.cells (bcells 64 fun _ => 0) 25)).alloc (.cells (bcells 64 fun _ => 0) 25))) Try.size25 ?_; try simp only [Act.put]) | (refine wpList_store_blk rfl 25 (.tmp 10) (.tmp 27) rfl _ 64 (bzU n f m) rfl rfl 25 _ ((((show Blk ((W11.alloc (.cells (bcells 64 fun _ => 0) 25)).alloc (.cells (bcells 64 fun _ => 0) 25)) (W11.heap.size + 1) 64 25 (fun _ => 0) by have := Blk.new (W11.alloc (.cells (bcells 64 fun _ => 0) 25)) 64 25 (fun _ => 0); simpa using this).alloc (.cells (bcells 64 fun _ => 0) 25)).rowOther (by omega))) Try.size25 ?_; try simp only [Act.put]) | (refine wpList_store_blk rfl 25 (.tmp 11) (.tmp 28) rfl _ 64 (bzW n f m) rfl rfl 25 _ ((((show Blk (((W11.alloc (.cells (bcells 64 fun _ => 0) 25)).alloc (.cells (bcells 64 fun _ => 0) 25)).alloc (.cells (bcells 64 fun _ => 0) 25)) (W11.heap.size + 1 + 1) 64 25 (fun _ => 0) by have := Blk.new ((W11.alloc (.cells (bcells 64 fun _ => 0) 25)).alloc (.cells (bcells 64 fun _ => 0) 25)) 64 25 (fun _ => 0); simpa using this).rowOther (by omega)).rowOther (by omega))) Try.size25 ?_; try simp only [Act.put]))
      have lt_B0 := B0.lt
      have lt_B1 := B1.lt
      have lt_B2 := B2.lt
      have lhb := hb.size
      have qB0 : Blk ((((((W11.alloc (.cells (bcells 64 fun _ => 0) 25)).alloc (.cells (bcells 64 fun _ => 0) 25)).alloc (.cells (bcells 64 fun _ => 0) 25)).setRow (W11.heap.size) (bcells 64 (bzD n f m))).setRow (W11.heap.size + 1) (bcells 64 (bzU n f m))).setRow (W11.heap.size + 1 + 1) (bcells 64 (bzW n f m))) (w.heap.size) 64 25 (f) := ((((((B0.alloc (.cells (bcells 64 fun _ => 0) 25)).alloc (.cells (bcells 64 fun _ => 0) 25)).alloc (.cells (bcells 64 fun _ => 0) 25)).rowOther (by omega)).rowOther (by omega)).rowOther (by omega))
      have qB1 : Blk ((((((W11.alloc (.cells (bcells 64 fun _ => 0) 25)).alloc (.cells (bcells 64 fun _ => 0) 25)).alloc (.cells (bcells 64 fun _ => 0) 25)).setRow (W11.heap.size) (bcells 64 (bzD n f m))).setRow (W11.heap.size + 1) (bcells 64 (bzU n f m))).setRow (W11.heap.size + 1 + 1) (bcells 64 (bzW n f m))) (w.heap.size + 1) 64 25 (m) := ((((((B1.alloc (.cells (bcells 64 fun _ => 0) 25)).alloc (.cells (bcells 64 fun _ => 0) 25)).alloc (.cells (bcells 64 fun _ => 0) 25)).rowOther (by omega)).rowOther (by omega)).rowOther (by omega))
      have qB2 : Blk ((((((W11.alloc (.cells (bcells 64 fun _ => 0) 25)).alloc (.cells (bcells 64 fun _ => 0) 25)).alloc (.cells (bcells 64 fun _ => 0) 25)).setRow (W11.heap.size) (bcells 64 (bzD n f m))).setRow (W11.heap.size + 1) (bcells 64 (bzU n f m))).setRow (W11.heap.size + 1 + 1) (bcells 64 (bzW n f m))) (w.heap.size + 1 + 1) 64 25 (fun _ => 0) := ((((((B2.alloc (.cells (bcells 64 fun _ => 0) 25)).alloc (.cells (bcells 64 fun _ => 0) 25)).alloc (.cells (bcells 64 fun _ => 0) 25)).rowOther (by omega)).rowOther (by omega)).rowOther (by omega))
      have qB3 : Blk ((((((W11.alloc (.cells (bcells 64 fun _ => 0) 25)).alloc (.cells (bcells 64 fun _ => 0) 25)).alloc (.cells (bcells 64 fun _ => 0) 25)).setRow (W11.heap.size) (bcells 64 (bzD n f m))).setRow (W11.heap.size + 1) (bcells 64 (bzU n f m))).setRow (W11.heap.size + 1 + 1) (bcells 64 (bzW n f m))) (W11.heap.size) 64 25 (bzD n f m) := ((((((Blk.new W11 64 25 (fun _ => 0)).alloc (.cells (bcells 64 fun _ => 0) 25)).alloc (.cells (bcells 64 fun _ => 0) 25)).row (bzD n f m)).rowOther (by omega)).rowOther (by omega))
      have qB4 : Blk ((((((W11.alloc (.cells (bcells 64 fun _ => 0) 25)).alloc (.cells (bcells 64 fun _ => 0) 25)).alloc (.cells (bcells 64 fun _ => 0) 25)).setRow (W11.heap.size) (bcells 64 (bzD n f m))).setRow (W11.heap.size + 1) (bcells 64 (bzU n f m))).setRow (W11.heap.size + 1 + 1) (bcells 64 (bzW n f m))) (W11.heap.size + 1) 64 25 (bzU n f m) := (((((show Blk ((W11.alloc (.cells (bcells 64 fun _ => 0) 25)).alloc (.cells (bcells 64 fun _ => 0) 25)) (W11.heap.size + 1) 64 25 (fun _ => 0) by have := Blk.new (W11.alloc (.cells (bcells 64 fun _ => 0) 25)) 64 25 (fun _ => 0); simpa using this).alloc (.cells (bcells 64 fun _ => 0) 25)).rowOther (by omega)).row (bzU n f m)).rowOther (by omega))
      have qB5 : Blk ((((((W11.alloc (.cells (bcells 64 fun _ => 0) 25)).alloc (.cells (bcells 64 fun _ => 0) 25)).alloc (.cells (bcells 64 fun _ => 0) 25)).setRow (W11.heap.size) (bcells 64 (bzD n f m))).setRow (W11.heap.size + 1) (bcells 64 (bzU n f m))).setRow (W11.heap.size + 1 + 1) (bcells 64 (bzW n f m))) (W11.heap.size + 1 + 1) 64 25 (bzW n f m) := ((((show Blk (((W11.alloc (.cells (bcells 64 fun _ => 0) 25)).alloc (.cells (bcells 64 fun _ => 0) 25)).alloc (.cells (bcells 64 fun _ => 0) 25)) (W11.heap.size + 1 + 1) 64 25 (fun _ => 0) by have := Blk.new ((W11.alloc (.cells (bcells 64 fun _ => 0) 25)).alloc (.cells (bcells 64 fun _ => 0) 25)) 64 25 (fun _ => 0); simpa using this).rowOther (by omega)).rowOther (by omega)).row (bzW n f m))
      have qhb : Below w.heap.size w ((((((W11.alloc (.cells (bcells 64 fun _ => 0) 25)).alloc (.cells (bcells 64 fun _ => 0) 25)).alloc (.cells (bcells 64 fun _ => 0) 25)).setRow (W11.heap.size) (bcells 64 (bzD n f m))).setRow (W11.heap.size + 1) (bcells 64 (bzU n f m))).setRow (W11.heap.size + 1 + 1) (bcells 64 (bzW n f m))) := (below_row (below_row (below_row (((hb.alloc (by have := hb.size; simp; omega) (.cells (bcells 64 fun _ => 0) 25)).alloc (by have := hb.size; simp; omega) (.cells (bcells 64 fun _ => 0) 25)).alloc (by have := hb.size; simp; omega) (.cells (bcells 64 fun _ => 0) 25)) (by omega) _) (by omega) _) (by omega) _)
      obtain ⟨W12, hwo⟩ : ∃ v : World, v = ((((((W11.alloc (.cells (bcells 64 fun _ => 0) 25)).alloc (.cells (bcells 64 fun _ => 0) 25)).alloc (.cells (bcells 64 fun _ => 0) 25)).setRow (W11.heap.size) (bcells 64 (bzD n f m))).setRow (W11.heap.size + 1) (bcells 64 (bzU n f m))).setRow (W11.heap.size + 1 + 1) (bcells 64 (bzW n f m))) := ⟨_, rfl⟩
      rw [← hwo] at qB0 qB1 qB2 qB3 qB4 qB5 qhb ⊢
      clear hwo
      clear B0 B1 B2 hb
      have B0 := qB0
      have B1 := qB1
      have B2 := qB2
      have B3 := qB3
      have B4 := qB4
      have B5 := qB5
      have hb := qhb
      clear qB0 qB1 qB2 qB3 qB4 qB5 qhb
      obtain ⟨N1, hNN⟩ : ∃ n : Nat, n = W11.heap.size := ⟨_, rfl⟩
      rw [← hNN] at lt_B0 lt_B1 lt_B2 lhb B3 B4 B5 ⊢
      clear hNN
      have zN1_0 := lt_B0
      have zN1_1 := lt_B1
      have zN1_2 := lt_B2
      have zN1 := lhb
      clear lt_B0 lt_B1 lt_B2 lhb
      try simp only [Act.put, List.setIfInBounds_toArray, List.set_cons_zero, List.set_cons_succ]
      go_upto_region 7 with (first | (refine wpList_load_any rfl 25 (.tmp 9) rfl _ rfl 64 25 _ (B3) _ Try.underlying25 rfl Try.size25 ?_))
      clear heq hgd
      have lt_B0 := B0.lt
      have lt_B1 := B1.lt
      have lt_B2 := B2.lt
      have lt_B3 := B3.lt
      have lt_B4 := B4.lt
      have lt_B5 := B5.lt
      go_wp2_with (first | rw [← zero64] | (refine wpList_load_any rfl 25 (.tmp 10) rfl _ rfl 64 25 _ (B4) _ Try.underlying25 rfl Try.size25 ?_) | (refine wpList_store_blk rfl 25 (.tmp 6) (.tmp 33) rfl _ 64 (bzU n f m) rfl rfl 25 _ (B2) Try.size25 ?_; try simp only [Act.put]; go_wp2_with fail))
      have qB0 : Blk (W12.setRow (w.heap.size + 1 + 1) (bcells 64 (bzU n f m))) (w.heap.size) 64 25 (f) := (B0.rowOther (by omega))
      have qB1 : Blk (W12.setRow (w.heap.size + 1 + 1) (bcells 64 (bzU n f m))) (w.heap.size + 1) 64 25 (m) := (B1.rowOther (by omega))
      have qB2 : Blk (W12.setRow (w.heap.size + 1 + 1) (bcells 64 (bzU n f m))) (w.heap.size + 1 + 1) 64 25 (bzU n f m) := (B2.row (bzU n f m))
      have qB3 : Blk (W12.setRow (w.heap.size + 1 + 1) (bcells 64 (bzU n f m))) (N1) 64 25 (bzD n f m) := (B3.rowOther (by omega))
      have qB4 : Blk (W12.setRow (w.heap.size + 1 + 1) (bcells 64 (bzU n f m))) (N1 + 1) 64 25 (bzU n f m) := (B4.rowOther (by omega))
      have qB5 : Blk (W12.setRow (w.heap.size + 1 + 1) (bcells 64 (bzU n f m))) (N1 + 1 + 1) 64 25 (bzW n f m) := (B5.rowOther (by omega))
      have qhb : Below w.heap.size w (W12.setRow (w.heap.size + 1 + 1) (bcells 64 (bzU n f m))) := (below_row hb (by omega) _)
      obtain ⟨W13, hwo⟩ : ∃ v : World, v = (W12.setRow (w.heap.size + 1 + 1) (bcells 64 (bzU n f m))) := ⟨_, rfl⟩
      rw [← hwo] at qB0 qB1 qB2 qB3 qB4 qB5 qhb ⊢
      clear hwo
      clear B0 B1 B2 B3 B4 B5 hb
      have B0 := qB0
      have B1 := qB1
      have B2 := qB2
      have B3 := qB3
      have B4 := qB4
      have B5 := qB5
      have hb := qhb
      clear qB0 qB1 qB2 qB3 qB4 qB5 qhb
      try simp only [Act.put, List.setIfInBounds_toArray, List.set_cons_zero, List.set_cons_succ]
      refine bodyPost_ret (results_bt rfl _ _ _ 64 25 5 _ rfl B2 Try.underlying25 Try.size25) rfl ⟨by first | (rw [HV.out]; rfl) | rw [HV.out], hb⟩
set_option maxRecDepth 100000 in
set_option maxHeartbeats 1600000 in
theorem spec_InverseModulo_any (p : Int) (f m : Nat → Nat) (hf : byte f) (hm : byte m) (w : World) :
    Calls Try.prog 109 #[.int .i64 p, .agg (bcells 64 f), .agg (bcells 64 m)] w fun e w' => e = .returned (.tuple #[.agg (bcells 64 (invV p f m).1), .int .i64 (invV p f m).2]) ∧ Below w.heap.size w w' := by
  go_enter Try.func109, Try.ntmps109
  go_upto_region 1 with (fail)
  rw [← zero64]
  obtain ⟨W1, hwo⟩ : ∃ v : World, v = (((w.alloc (.cells (bcells 64 (f)) 25)).alloc (.cells (bcells 64 (m)) 25)).alloc (.cells (bcells 64 fun _ => 0) 25)) := ⟨_, rfl⟩
  have B0 : Blk W1 (w.heap.size) 64 25 (f) := by subst hwo; have := (((Blk.new w 64 25 (f)).alloc (.cells (bcells 64 (m)) 25)).alloc (.cells (bcells 64 fun _ => 0) 25)); simpa using this
  have B1 : Blk W1 (w.heap.size + 1) 64 25 (m) := by subst hwo; have := ((Blk.new (w.alloc (.cells (bcells 64 (f)) 25)) 64 25 (m)).alloc (.cells (bcells 64 fun _ => 0) 25)); simpa using this
  have B2 : Blk W1 (w.heap.size + 1 + 1) 64 25 (fun _ => 0) := by subst hwo; have := (Blk.new ((w.alloc (.cells (bcells 64 (f)) 25)).alloc (.cells (bcells 64 (m)) 25)) 64 25 (fun _ => 0)); simpa using this
  have hb : Below w.heap.size w W1 := by subst hwo; exact ((((Below.refl _ _).alloc (Nat.le_refl _) _).alloc (by simp) _).alloc (by simp; omega) _)
  rw [← hwo]
  clear hwo
  go_upto_region 2 with (first | (refine wpList_load_any rfl 25 (.tmp 5) rfl _ rfl 64 25 _ B1 _ Try.underlying25 rfl Try.size25 ?_) | (refine wpList_load_any rfl 25 (.tmp 4) rfl _ rfl 64 25 _ B0 _ Try.underlying25 rfl Try.size25 ?_) | (refine wpList_build_polys rfl 57 _ [f] rfl 25 rfl Try.underlying57 Try.elem25 (by simp) (by simp) rfl ?_; intro wa hwa hps hba; clear hwa) | (go_at_call 198; refine (l02Modulus_any p m hm [f] (by simp [hf]) _ _ hps (by simp)).mono ?_; rintro e W2 ⟨rfl, hbb⟩))
  have hBB : Below W1.heap.size W1 W2 := hba.trans (hbb.mono hba.size)
  replace B0 := B0.below hBB B0.lt
  replace B1 := B1.below hBB B1.lt
  replace B2 := B2.below hBB B2.lt
  replace hb := hb.trans (hBB.mono hb.size)
  clear hBB hba hbb hps
  rcases modV_cases (p := p) (m := m) (fs := [f]) with ⟨c, hc, hc0, hc12⟩ | ⟨hc, hcm, hcf, hm5⟩
  · have HV := Lib.hid (invV_code hc hc0)
    rw [hc]
    clear hc
    have hb1 : ((c : Int) != 0) = true := by simp [hc0]
    go_upto_region 3 with (fail)
    have lt_B0 := B0.lt
    have lt_B1 := B1.lt
    have lt_B2 := B2.lt
    go_wp2_with (first | rw [← zero64] | (refine wpList_store_blk rfl 25 (.tmp 6) (.tmp 16) rfl _ 64 (fun _ => 0) rfl rfl 25 _ (B2) Try.size25 ?_; try simp only [Act.put]; go_wp2_with fail))
    have qB0 : Blk (W2.setRow (w.heap.size + 1 + 1) (bcells 64 (fun _ => 0))) (w.heap.size) 64 25 (f) := (B0.rowOther (by omega))
    have qB1 : Blk (W2.setRow (w.heap.size + 1 + 1) (bcells 64 (fun _ => 0))) (w.heap.size + 1) 64 25 (m) := (B1.rowOther (by omega))
    have qB2 : Blk (W2.setRow (w.heap.size + 1 + 1) (bcells 64 (fun _ => 0))) (w.heap.size + 1 + 1) 64 25 (fun _ => 0) := (B2.row (fun _ => 0))
    have qhb : Below w.heap.size w (W2.setRow (w.heap.size + 1 + 1) (bcells 64 (fun _ => 0))) := (below_row hb (by omega) _)
    obtain ⟨W11, hwo⟩ : ∃ v : World, v = (W2.setRow (w.heap.size + 1 + 1) (bcells 64 (fun _ => 0))) := ⟨_, rfl⟩
    rw [← hwo] at qB0 qB1 qB2 qhb ⊢
    clear hwo
    clear B0 B1 B2 hb
    have B0 := qB0
    have B1 := qB1
    have B2 := qB2
    have hb := qhb
    clear qB0 qB1 qB2 qhb
    try simp only [Act.put, List.setIfInBounds_toArray, List.set_cons_zero, List.set_cons_succ]
    refine bodyPost_ret (results_bt rfl _ _ _ 64 25 5 _ rfl B2 Try.underlying25 Try.size25) rfl ⟨by first | (rw [HV.out]; rfl) | rw [HV.out], hb⟩
  · obtain ⟨n, hn, n2, n7⟩ := okP_nat (codeL_zero hcf).1
    subst hn
    have lf := lt_of_code hcf (f := f) (by simp)
    have lm := lt_of_code hcm (f := m) (by simp)
    have hpr := prime_of hcf
    obtain ⟨d, hmon, hd1, hd5⟩ := mon_up hm5
    have h0 : 0 ≤ deg m := by rw [hmon.1]; omega
    cases hu : eqN 64 (bzD n f m) oneP with
    | false =>
      have HV := Lib.hid (invV_no hc hu)
      have HU := Lib.hid (fun W => l02Unit_any n f m W hpr lf lm h0)
      rw [hu] at HU
      rw [hc]
      clear hc hmon hd1 hd5 hm5 hcm hcf hu
      go_upto_region 4 with (fail)
      go_upto_region 5 with (first | (refine wpList_load_any rfl 25 (.tmp 4) rfl _ rfl 64 25 _ (B0) _ Try.underlying25 rfl Try.size25 ?_) | (refine wpList_load_any rfl 25 (.tmp 5) rfl _ rfl 64 25 _ (B1) _ Try.underlying25 rfl Try.size25 ?_) | (go_at_call 199; refine (HU.out _).mono ?_; rintro e W11 ⟨rfl, hW11⟩; replace B0 := B0.below hW11 B0.lt; replace B1 := B1.below hW11 B1.lt; replace B2 := B2.below hW11 B2.lt; replace hb := (hb).trans (hW11.mono (hb).size)))
      have lt_B0 := B0.lt
      have lt_B1 := B1.lt
      have lt_B2 := B2.lt
      go_wp2_with (first | rw [← zero64] | (refine wpList_store_blk rfl 25 (.tmp 6) (.tmp 23) rfl _ 64 (fun _ => 0) rfl rfl 25 _ (B2) Try.size25 ?_; try simp only [Act.put]; go_wp2_with fail))
      have qB0 : Blk (W11.setRow (w.heap.size + 1 + 1) (bcells 64 (fun _ => 0))) (w.heap.size) 64 25 (f) := (B0.rowOther (by omega))
      have qB1 : Blk (W11.setRow (w.heap.size + 1 + 1) (bcells 64 (fun _ => 0))) (w.heap.size + 1) 64 25 (m) := (B1.rowOther (by omega))
      have qB2 : Blk (W11.setRow (w.heap.size + 1 + 1) (bcells 64 (fun _ => 0))) (w.heap.size + 1 + 1) 64 25 (fun _ => 0) := (B2.row (fun _ => 0))
      have qhb : Below w.heap.size w (W11.setRow (w.heap.size + 1 + 1) (bcells 64 (fun _ => 0))) := (below_row hb (by omega) _)
      obtain ⟨W12, hwo⟩ : ∃ v : World, v = (W11.setRow (w.heap.size + 1 + 1) (bcells 64 (fun _ => 0))) := ⟨_, rfl⟩
      rw [← hwo] at qB0 qB1 qB2 qhb ⊢
      clear hwo
      clear B0 B1 B2 hb
      have B0 := qB0
      have B1 := qB1
      have B2 := qB2
      have hb := qhb
      clear qB0 qB1 qB2 qhb
      try simp only [Act.put, List.setIfInBounds_toArray, List.set_cons_zero, List.set_cons_succ]
      refine bodyPost_ret (results_bt rfl _ _ _ 64 25 5 _ rfl B2 Try.underlying25 Try.size25) rfl ⟨by first | (rw [HV.out]; rfl) | rw [HV.out], hb⟩
    | true =>
      have HV := Lib.hid (invV_ok hc hu)
      have HU := Lib.hid (fun W => l02Unit_any n f m W hpr lf lm h0)
      rw [hu] at HU
      have HI := Lib.hid (fun W => l02Inverse_any n f m W hpr lf lm d hmon hu)
      rw [hc]
      clear hc hmon hd1 hd5 hm5 hcm hcf hu
      go_upto_region 4 with (fail)
      go_upto_region 6 with (first | (refine wpList_load_any rfl 25 (.tmp 4) rfl _ rfl 64 25 _ (B0) _ Try.underlying25 rfl Try.size25 ?_) | (refine wpList_load_any rfl 25 (.tmp 5) rfl _ rfl 64 25 _ (B1) _ Try.underlying25 rfl Try.size25 ?_) | (go_at_call 199; refine (HU.out _).mono ?_; rintro e W11 ⟨rfl, hW11⟩; replace B0 := B0.below hW11 B0.lt; replace B1 := B1.below hW11 B1.lt; replace B2 := B2.below hW11 B2.lt; replace hb := (hb).trans (hW11.mono (hb).size)))
      have lt_B0 := B0.lt
      have lt_B1 := B1.lt
      have lt_B2 := B2.lt
      go_wp2_with (first | rw [← zero64] | (refine wpList_load_any rfl 25 (.tmp 4) rfl _ rfl 64 25 _ (B0) _ Try.underlying25 rfl Try.size25 ?_) | (refine wpList_load_any rfl 25 (.tmp 5) rfl _ rfl 64 25 _ (B1) _ Try.underlying25 rfl Try.size25 ?_) | (go_at_call 200; refine (HI.out _).mono ?_; rintro e W12 ⟨rfl, hW12⟩; replace B0 := B0.below hW12 B0.lt; replace B1 := B1.below hW12 B1.lt; replace B2 := B2.below hW12 B2.lt; replace hb := (hb).trans (hW12.mono (hb).size)) | (refine wpList_store_blk rfl 25 (.tmp 6) (.tmp 27) rfl _ 64 (bzU n f m) rfl rfl 25 _ (B2) Try.size25 ?_; try simp only [Act.put]; go_wp2_with fail))
      have qB0 : Blk (W12.setRow (w.heap.size + 1 + 1) (bcells 64 (bzU n f m))) (w.heap.size) 64 25 (f) := (B0.rowOther (by omega))
      have qB1 : Blk (W12.setRow (w.heap.size + 1 + 1) (bcells 64 (bzU n f m))) (w.heap.size + 1) 64 25 (m) := (B1.rowOther (by omega))
      have qB2 : Blk (W12.setRow (w.heap.size + 1 + 1) (bcells 64 (bzU n f m))) (w.heap.size + 1 + 1) 64 25 (bzU n f m) := (B2.row (bzU n f m))
      have qhb : Below w.heap.size w (W12.setRow (w.heap.size + 1 + 1) (bcells 64 (bzU n f m))) := (below_row hb (by omega) _)
      obtain ⟨W13, hwo⟩ : ∃ v : World, v = (W12.setRow (w.heap.size + 1 + 1) (bcells 64 (bzU n f m))) := ⟨_, rfl⟩
      rw [← hwo] at qB0 qB1 qB2 qhb ⊢
      clear hwo
      clear B0 B1 B2 hb
      have B0 := qB0
      have B1 := qB1
      have B2 := qB2
      have hb := qhb
      clear qB0 qB1 qB2 qhb
      try simp only [Act.put, List.setIfInBounds_toArray, List.set_cons_zero, List.set_cons_succ]
      refine bodyPost_ret (results_bt rfl _ _ _ 64 25 5 _ rfl B2 Try.underlying25 Try.size25) rfl ⟨by first | (rw [HV.out]; rfl) | rw [HV.out], hb⟩
end Go.Proofs.Ytkaaffccklkafaa
