/-
  Walks: rests and rests of products.
-/
import Derived.Test.YtbjpkmbhbpcbgaaW28
namespace Go.Proofs.Ytbjpkmbhbpcbgaa
open Go.RowKit
set_option linter.unusedVariables false
set_option linter.unusedSimpArgs false
attribute [local irreducible] deg invN dS qS stp stpr quoP resP oneP upP upF hmR mmP shA
set_option maxRecDepth 100000 in
set_option maxHeartbeats 400000 in
theorem restOf_any (p : Nat) (f m : Nat → Nat) (w : World) (hpr : p = 2 ∨ p = 3 ∨ p = 5 ∨ p = 7) (lf : ∀ k, k < 64 → f k < p) (lm : ∀ k, k < 64 → m k < p) (h0 : 0 ≤ deg m) :
    Calls Try.prog 113 #[.int .i64 (p : Int), .agg (bcells 64 f), .agg (bcells 64 m)] w fun e w' => e = .returned (.agg (bcells 64 (resP p f m))) ∧ Below w.heap.size w w' := by
  go_enter Try.func113, Try.ntmps113
  go_upto_region 1 with (fail)
  rw [← zero64]
  obtain ⟨W1, hwo⟩ : ∃ v : World, v = (((w.alloc (.cells (bcells 64 (f)) 23)).alloc (.cells (bcells 64 (m)) 23)).alloc (.cells (bcells 64 fun _ => 0) 23)) := ⟨_, rfl⟩
  have B0 : Blk W1 (w.heap.size) 64 23 (f) := by subst hwo; have := (((Blk.new w 64 23 (f)).alloc (.cells (bcells 64 (m)) 23)).alloc (.cells (bcells 64 fun _ => 0) 23)); simpa using this
  have B1 : Blk W1 (w.heap.size + 1) 64 23 (m) := by subst hwo; have := ((Blk.new (w.alloc (.cells (bcells 64 (f)) 23)) 64 23 (m)).alloc (.cells (bcells 64 fun _ => 0) 23)); simpa using this
  have B2 : Blk W1 (w.heap.size + 1 + 1) 64 23 (fun _ => 0) := by subst hwo; have := (Blk.new ((w.alloc (.cells (bcells 64 (f)) 23)).alloc (.cells (bcells 64 (m)) 23)) 64 23 (fun _ => 0)); simpa using this
  have hb : Below w.heap.size w W1 := by subst hwo; exact ((((Below.refl _ _).alloc (Nat.le_refl _) _).alloc (by simp) _).alloc (by simp; omega) _)
  rw [← hwo]
  clear hwo
  have lt_B0 := B0.lt
  have lt_B1 := B1.lt
  have lt_B2 := B2.lt
  go_upto_region 2 with (first | rw [← zero64] | (refine wpList_load_any rfl 23 (.tmp 4) rfl _ rfl 64 23 _ (B0) _ Try.underlying23 rfl Try.size23 ?_) | (refine wpList_load_any rfl 23 (.tmp 5) rfl _ rfl 64 23 _ (B1) _ Try.underlying23 rfl Try.size23 ?_) | (go_at_call 125; refine (quotientAndRest_any p f m _ hpr lf lm h0).mono ?_; rintro e W2 ⟨rfl, hW2⟩; replace B0 := B0.below hW2 B0.lt; replace B1 := B1.below hW2 B1.lt; replace B2 := B2.below hW2 B2.lt; replace hb := (hb).trans (hW2.mono (hb).size)) | (refine wpList_store_blk rfl 23 (.tmp 7) (.tmp 14) rfl _ 64 (quoP p f m) rfl rfl 23 _ (((Blk.new W2 64 23 (fun _ => 0)).alloc (.cells (bcells 64 fun _ => 0) 23))) Try.size23 ?_; try simp only [Act.put]) | (refine wpList_store_blk rfl 23 (.tmp 8) (.tmp 15) rfl _ 64 (resP p f m) rfl rfl 23 _ (((show Blk ((W2.alloc (.cells (bcells 64 fun _ => 0) 23)).alloc (.cells (bcells 64 fun _ => 0) 23)) (W2.heap.size + 1) 64 23 (fun _ => 0) by have := Blk.new (W2.alloc (.cells (bcells 64 fun _ => 0) 23)) 64 23 (fun _ => 0); simpa using this).rowOther (by omega))) Try.size23 ?_; try simp only [Act.put]))
  have lt_B0 := B0.lt
  have lt_B1 := B1.lt
  have lt_B2 := B2.lt
  have lhb := hb.size
  have qB0 : Blk ((((W2.alloc (.cells (bcells 64 fun _ => 0) 23)).alloc (.cells (bcells 64 fun _ => 0) 23)).setRow (W2.heap.size) (bcells 64 (quoP p f m))).setRow (W2.heap.size + 1) (bcells 64 (resP p f m))) (w.heap.size) 64 23 (f) := ((((B0.alloc (.cells (bcells 64 fun _ => 0) 23)).alloc (.cells (bcells 64 fun _ => 0) 23)).rowOther (by omega)).rowOther (by omega))
  have qB1 : Blk ((((W2.alloc (.cells (bcells 64 fun _ => 0) 23)).alloc (.cells (bcells 64 fun _ => 0) 23)).setRow (W2.heap.size) (bcells 64 (quoP p f m))).setRow (W2.heap.size + 1) (bcells 64 (resP p f m))) (w.heap.size + 1) 64 23 (m) := ((((B1.alloc (.cells (bcells 64 fun _ => 0) 23)).alloc (.cells (bcells 64 fun _ => 0) 23)).rowOther (by omega)).rowOther (by omega))
  have qB2 : Blk ((((W2.alloc (.cells (bcells 64 fun _ => 0) 23)).alloc (.cells (bcells 64 fun _ => 0) 23)).setRow (W2.heap.size) (bcells 64 (quoP p f m))).setRow (W2.heap.size + 1) (bcells 64 (resP p f m))) (w.heap.size + 1 + 1) 64 23 (fun _ => 0) := ((((B2.alloc (.cells (bcells 64 fun _ => 0) 23)).alloc (.cells (bcells 64 fun _ => 0) 23)).rowOther (by omega)).rowOther (by omega))
  have qB3 : Blk ((((W2.alloc (.cells (bcells 64 fun _ => 0) 23)).alloc (.cells (bcells 64 fun _ => 0) 23)).setRow (W2.heap.size) (bcells 64 (quoP p f m))).setRow (W2.heap.size + 1) (bcells 64 (resP p f m))) (W2.heap.size) 64 23 (quoP p f m) := ((((Blk.new W2 64 23 (fun _ => 0)).alloc (.cells (bcells 64 fun _ => 0) 23)).row (quoP p f m)).rowOther (by omega))
  have qB4 : Blk ((((W2.alloc (.cells (bcells 64 fun _ => 0) 23)).alloc (.cells (bcells 64 fun _ => 0) 23)).setRow (W2.heap.size) (bcells 64 (quoP p f m))).setRow (W2.heap.size + 1) (bcells 64 (resP p f m))) (W2.heap.size + 1) 64 23 (resP p f m) := (((show Blk ((W2.alloc (.cells (bcells 64 fun _ => 0) 23)).alloc (.cells (bcells 64 fun _ => 0) 23)) (W2.heap.size + 1) 64 23 (fun _ => 0) by have := Blk.new (W2.alloc (.cells (bcells 64 fun _ => 0) 23)) 64 23 (fun _ => 0); simpa using this).rowOther (by omega)).row (resP p f m))
  have qhb : Below w.heap.size w ((((W2.alloc (.cells (bcells 64 fun _ => 0) 23)).alloc (.cells (bcells 64 fun _ => 0) 23)).setRow (W2.heap.size) (bcells 64 (quoP p f m))).setRow (W2.heap.size + 1) (bcells 64 (resP p f m))) := (below_row (below_row ((hb.alloc (by have := hb.size; simp; omega) (.cells (bcells 64 fun _ => 0) 23)).alloc (by have := hb.size; simp; omega) (.cells (bcells 64 fun _ => 0) 23)) (by omega) _) (by omega) _)
  obtain ⟨W3, hwo⟩ : ∃ v : World, v = ((((W2.alloc (.cells (bcells 64 fun _ => 0) 23)).alloc (.cells (bcells 64 fun _ => 0) 23)).setRow (W2.heap.size) (bcells 64 (quoP p f m))).setRow (W2.heap.size + 1) (bcells 64 (resP p f m))) := ⟨_, rfl⟩
  rw [← hwo] at qB0 qB1 qB2 qB3 qB4 qhb ⊢
  clear hwo
  clear B0 B1 B2 hb
  have B0 := qB0
  have B1 := qB1
  have B2 := qB2
  have B3 := qB3
  have B4 := qB4
  have hb := qhb
  clear qB0 qB1 qB2 qB3 qB4 qhb
  obtain ⟨N1, hNN⟩ : ∃ n : Nat, n = W2.heap.size := ⟨_, rfl⟩
  rw [← hNN] at lt_B0 lt_B1 lt_B2 lhb B3 B4 ⊢
  clear hNN
  have zN1_0 := lt_B0
  have zN1_1 := lt_B1
  have zN1_2 := lt_B2
  have zN1 := lhb
  clear lt_B0 lt_B1 lt_B2 lhb
  try simp only [Act.put, List.setIfInBounds_toArray, List.set_cons_zero, List.set_cons_succ]
  have lt_B0 := B0.lt
  have lt_B1 := B1.lt
  have lt_B2 := B2.lt
  have lt_B3 := B3.lt
  have lt_B4 := B4.lt
  go_wp2_with (first | rw [← zero64] | (refine wpList_load_any rfl 23 (.tmp 8) rfl _ rfl 64 23 _ (B4) _ Try.underlying23 rfl Try.size23 ?_) | (refine wpList_store_blk rfl 23 (.tmp 6) (.tmp 16) rfl _ 64 (resP p f m) rfl rfl 23 _ (B2) Try.size23 ?_; try simp only [Act.put]))
  have qB0 : Blk (W3.setRow (w.heap.size + 1 + 1) (bcells 64 (resP p f m))) (w.heap.size) 64 23 (f) := (B0.rowOther (by omega))
  have qB1 : Blk (W3.setRow (w.heap.size + 1 + 1) (bcells 64 (resP p f m))) (w.heap.size + 1) 64 23 (m) := (B1.rowOther (by omega))
  have qB2 : Blk (W3.setRow (w.heap.size + 1 + 1) (bcells 64 (resP p f m))) (w.heap.size + 1 + 1) 64 23 (resP p f m) := (B2.row (resP p f m))
  have qB3 : Blk (W3.setRow (w.heap.size + 1 + 1) (bcells 64 (resP p f m))) (N1) 64 23 (quoP p f m) := (B3.rowOther (by omega))
  have qB4 : Blk (W3.setRow (w.heap.size + 1 + 1) (bcells 64 (resP p f m))) (N1 + 1) 64 23 (resP p f m) := (B4.rowOther (by omega))
  have qhb : Below w.heap.size w (W3.setRow (w.heap.size + 1 + 1) (bcells 64 (resP p f m))) := (below_row hb (by omega) _)
  obtain ⟨W4, hwo⟩ : ∃ v : World, v = (W3.setRow (w.heap.size + 1 + 1) (bcells 64 (resP p f m))) := ⟨_, rfl⟩
  rw [← hwo] at qB0 qB1 qB2 qB3 qB4 qhb ⊢
  clear hwo
  clear B0 B1 B2 B3 B4 hb
  have B0 := qB0
  have B1 := qB1
  have B2 := qB2
  have B3 := qB3
  have B4 := qB4
  have hb := qhb
  clear qB0 qB1 qB2 qB3 qB4 qhb
  try simp only [Act.put, List.setIfInBounds_toArray, List.set_cons_zero, List.set_cons_succ]
  refine bodyPost_ret (results_blk rfl _ _ _ 64 23 5 _ rfl B2 Try.underlying23 Try.size23) rfl ⟨rfl, hb⟩
set_option maxRecDepth 100000 in
set_option maxHeartbeats 800000 in
theorem restOfProduct_any (p : Nat) (f g m : Nat → Nat) (w : World) (hpr : p = 2 ∨ p = 3 ∨ p = 5 ∨ p = 7) (lf : ∀ k, k < 64 → f k < p) (lg : ∀ k, k < 64 → g k < p) (lm : ∀ k, k < 64 → m k < p) (h0 : 0 ≤ deg m) :
    Calls Try.prog 188 #[.int .i64 (p : Int), .agg (bcells 64 f), .agg (bcells 64 g), .agg (bcells 64 m)] w fun e w' => e = .returned (.agg (bcells 64 (mmP p f g m))) ∧ Below w.heap.size w w' := by
  have p2 : 2 ≤ p := by omega
  have p7 : p ≤ 7 := by omega
  obtain ⟨d, hd⟩ : ∃ d : Nat, deg m = (d : Int) := ⟨(deg m).toNat, by omega⟩
  obtain ⟨d6, md, _⟩ := deg_top hd
  obtain ⟨Q, hQ⟩ : ∃ Q, Q = quoW p (invN p (m d)) d m (prd p f g) := ⟨_, rfl⟩
  have HW := Lib.hid (fun W => wideProduct_any p f g W p2 p7 lf lg)
  have HL := Lib.hid (show ∀ W, Calls Try.prog 174 #[.int .i64 (p : Int), .agg (bcells 128 (prd p f g)), .agg (bcells 64 m)] W fun e w' => e = .returned (.tuple #[.agg (bcells 128 Q), .agg (bcells 64 (mmP p f g m))]) ∧ Below W.heap.size W w' by
    intro W
    rw [hQ, mmP_at hd]
    exact longDivision_any p d (prd p f g) m W hpr (fun k _ => prd_lt (by omega) k) lm hd md d6)
  clear hd md hQ
  go_enter Try.func188, Try.ntmps188
  go_upto_region 1 with (fail)
  rw [← zero64]
  obtain ⟨W1, hwo⟩ : ∃ v : World, v = ((((w.alloc (.cells (bcells 64 (f)) 23)).alloc (.cells (bcells 64 (g)) 23)).alloc (.cells (bcells 64 (m)) 23)).alloc (.cells (bcells 64 fun _ => 0) 23)) := ⟨_, rfl⟩
  have B0 : Blk W1 (w.heap.size) 64 23 (f) := by subst hwo; have := ((((Blk.new w 64 23 (f)).alloc (.cells (bcells 64 (g)) 23)).alloc (.cells (bcells 64 (m)) 23)).alloc (.cells (bcells 64 fun _ => 0) 23)); simpa using this
  have B1 : Blk W1 (w.heap.size + 1) 64 23 (g) := by subst hwo; have := (((Blk.new (w.alloc (.cells (bcells 64 (f)) 23)) 64 23 (g)).alloc (.cells (bcells 64 (m)) 23)).alloc (.cells (bcells 64 fun _ => 0) 23)); simpa using this
  have B2 : Blk W1 (w.heap.size + 1 + 1) 64 23 (m) := by subst hwo; have := ((Blk.new ((w.alloc (.cells (bcells 64 (f)) 23)).alloc (.cells (bcells 64 (g)) 23)) 64 23 (m)).alloc (.cells (bcells 64 fun _ => 0) 23)); simpa using this
  have B3 : Blk W1 (w.heap.size + 1 + 1 + 1) 64 23 (fun _ => 0) := by subst hwo; have := (Blk.new (((w.alloc (.cells (bcells 64 (f)) 23)).alloc (.cells (bcells 64 (g)) 23)).alloc (.cells (bcells 64 (m)) 23)) 64 23 (fun _ => 0)); simpa using this
  have hb : Below w.heap.size w W1 := by subst hwo; exact (((((Below.refl _ _).alloc (Nat.le_refl _) _).alloc (by simp) _).alloc (by simp; omega) _).alloc (by simp; omega) _)
  rw [← hwo]
  clear hwo
  have lt_B0 : (w.heap.size) < W1.heap.size := B0.lt
  have lt_B1 : (w.heap.size + 1) < W1.heap.size := B1.lt
  have lt_B2 : (w.heap.size + 1 + 1) < W1.heap.size := B2.lt
  have lt_B3 : (w.heap.size + 1 + 1 + 1) < W1.heap.size := B3.lt
  have hbase : w.heap.size ≤ W1.heap.size := hb.size
  refine wp_region_steps0 Try.mixed (by kernel_rfl) (by kernel_rfl) (fun v => by (simp only [frL, Act.put, List.setIfInBounds_toArray, List.set_cons_zero, List.set_cons_succ, Nat.reduceAdd, Nat.zero_add]; exact rfl))
    (fun L v W2 => Below w.heap.size w W2 ∧ W1.heap.size ≤ W2.heap.size ∧ Blk W2 (w.heap.size) 64 23 (f) ∧ Blk W2 (w.heap.size + 1) 64 23 (g) ∧ Blk W2 (w.heap.size + 1 + 1) 64 23 (m) ∧ Blk W2 (w.heap.size + 1 + 1 + 1) 64 23 (fun _ => 0) ∧ (L 0 = true → v 0 = (.int .i64 (p : Int))) ∧ (L 1 = true → v 1 = (.int .i64 (p : Int))) ∧ (L 2 = true → v 2 = (.agg (bcells 64 (f)))) ∧ (L 3 = true → v 3 = (.agg (bcells 64 (g)))) ∧ (L 4 = true → v 4 = (.agg (bcells 128 (prd p f g)))) ∧ (L 5 = true → v 5 = (.agg (bcells 64 (m)))) ∧ (L 6 = true → v 6 = (.tuple #[(.agg (bcells 128 (Q))), (.agg (bcells 64 (mmP p f g m)))])) ∧ (L 7 = true → v 7 = (.tuple #[(.agg (bcells 128 (Q))), (.agg (bcells 64 (mmP p f g m)))])) ∧ (L 8 = true → v 8 = (.agg (bcells 128 (Q)))) ∧ (L 9 = true → v 9 = (.agg (bcells 64 (mmP p f g m)))) ∧ (L 10 = true → AF (v 10) W2 W1.heap.size 128 118) ∧ (L 11 = true → AF (v 11) W2 W1.heap.size 64 23) ∧ (L 12 = true → PF (v 10) W2 W1.heap.size 128 118 (Q)) ∧ (L 13 = true → PF (v 11) W2 W1.heap.size 64 23 (mmP p f g m)) ∧ (L 10 = true → L 11 = true → v 10 ≠ v 11)) ?_ ?_ ?_
  · intro v hv0
    exact ⟨hb.drew, Nat.le_refl _, B0.drew, B1.drew, B2.drew, B3.drew, (fun h => by cases h), (fun h => by cases h), (fun h => by cases h), (fun h => by cases h), (fun h => by cases h), (fun h => by cases h), (fun h => by cases h), (fun h => by cases h), (fun h => by cases h), (fun h => by cases h), (fun h => by cases h), (fun h => by cases h), (fun h => by cases h), (fun h => by cases h), (fun h => by cases h)⟩
  · refine (.cons rfl ?_ (.cons rfl ?_ (.cons rfl ?_ (.cons rfl ?_ (.cons rfl ?_ (.cons rfl ?_ (.cons rfl ?_ (.cons rfl ?_ (.cons rfl ?_ (.cons rfl ?_ (.cons rfl ?_ (.cons rfl ?_ (.cons rfl ?_ (.cons rfl ?_ (.nil _)))))))))))))))
    · intro L v W2 hd hn ⟨hB, hz, s0, s1, s2, s3, h0, h1, h2, h3, h4, h5, h6, h7, h8, h9, h10, h11, h12, h13, d10_11⟩ K hK
      go_wp2_with fail
      exact hK _ (.int .i64 (p : Int)) _ (by simp only [Act.put, List.setIfInBounds_toArray, List.set_cons_zero, List.set_cons_succ ]) ⟨hB, hz, s0, s1, s2, s3, (fun _ => rfl), h1, h2, h3, h4, h5, h6, h7, h8, h9, h10, h11, h12, h13, d10_11⟩
    · intro L v W2 hd hn ⟨hB, hz, s0, s1, s2, s3, h0, h1, h2, h3, h4, h5, h6, h7, h8, h9, h10, h11, h12, h13, d10_11⟩ K hK
      go_wp2_with fail
      exact hK _ (.int .i64 (p : Int)) _ (by simp only [Act.put, List.setIfInBounds_toArray, List.set_cons_zero, List.set_cons_succ ]) ⟨hB, hz, s0, s1, s2, s3, h0, (fun _ => rfl), h2, h3, h4, h5, h6, h7, h8, h9, h10, h11, h12, h13, d10_11⟩
    · intro L v W2 hd hn ⟨hB, hz, s0, s1, s2, s3, h0, h1, h2, h3, h4, h5, h6, h7, h8, h9, h10, h11, h12, h13, d10_11⟩ K hK
      refine wp_load_any 23 _ rfl _ rfl 64 23 _ s0 _ Try.underlying23 rfl Try.size23 ?_
      exact hK _ _ _ rfl ⟨hB, hz, s0, s1, s2, s3, h0, h1, (fun _ => rfl), h3, h4, h5, h6, h7, h8, h9, h10, h11, h12, h13, d10_11⟩
    · intro L v W2 hd hn ⟨hB, hz, s0, s1, s2, s3, h0, h1, h2, h3, h4, h5, h6, h7, h8, h9, h10, h11, h12, h13, d10_11⟩ K hK
      refine wp_load_any 23 _ rfl _ rfl 64 23 _ s1 _ Try.underlying23 rfl Try.size23 ?_
      exact hK _ _ _ rfl ⟨hB, hz, s0, s1, s2, s3, h0, h1, h2, (fun _ => rfl), h4, h5, h6, h7, h8, h9, h10, h11, h12, h13, d10_11⟩
    · intro L v W2 hd hn ⟨hB, hz, s0, s1, s2, s3, h0, h1, h2, h3, h4, h5, h6, h7, h8, h9, h10, h11, h12, h13, d10_11⟩ K hK
      have e1 := h1 (hd ⟨1, .data⟩ (by simp) rfl)
      have e2 := h2 (hd ⟨2, .data⟩ (by simp) rfl)
      have e3 := h3 (hd ⟨3, .data⟩ (by simp) rfl)
      go_wp2_with (go_at_call 151; refine (HW.out _).mono ?_; rintro e wy ⟨rfl, hy⟩)
      exact hK _ (.agg (bcells 128 (prd p f g))) _ (by simp only [Act.put, List.setIfInBounds_toArray, List.set_cons_zero, List.set_cons_succ, e1, e2, e3]) ⟨hB.trans (hy.mono hB.size), (Nat.le_trans hz hy.size), (s0).below hy (s0).lt, (s1).below hy (s1).lt, (s2).below hy (s2).lt, (s3).below hy (s3).lt, h0, h1, h2, h3, (fun _ => rfl), h5, h6, h7, h8, h9, (fun h => (h10 h).below hy), (fun h => (h11 h).below hy), (fun h => (h12 h).below hy), (fun h => (h13 h).below hy), d10_11⟩
    · intro L v W2 hd hn ⟨hB, hz, s0, s1, s2, s3, h0, h1, h2, h3, h4, h5, h6, h7, h8, h9, h10, h11, h12, h13, d10_11⟩ K hK
      refine wp_load_any 23 _ rfl _ rfl 64 23 _ s2 _ Try.underlying23 rfl Try.size23 ?_
      exact hK _ _ _ rfl ⟨hB, hz, s0, s1, s2, s3, h0, h1, h2, h3, h4, (fun _ => rfl), h6, h7, h8, h9, h10, h11, h12, h13, d10_11⟩
    · intro L v W2 hd hn ⟨hB, hz, s0, s1, s2, s3, h0, h1, h2, h3, h4, h5, h6, h7, h8, h9, h10, h11, h12, h13, d10_11⟩ K hK
      have e0 := h0 (hd ⟨0, .data⟩ (by simp) rfl)
      have e4 := h4 (hd ⟨4, .data⟩ (by simp) rfl)
      have e5 := h5 (hd ⟨5, .data⟩ (by simp) rfl)
      go_wp2_with (go_at_call 174; refine (HL.out _).mono ?_; rintro e wy ⟨rfl, hy⟩)
      exact hK _ (.tuple #[(.agg (bcells 128 (Q))), (.agg (bcells 64 (mmP p f g m)))]) _ (by simp only [Act.put, List.setIfInBounds_toArray, List.set_cons_zero, List.set_cons_succ, e0, e4, e5]) ⟨hB.trans (hy.mono hB.size), (Nat.le_trans hz hy.size), (s0).below hy (s0).lt, (s1).below hy (s1).lt, (s2).below hy (s2).lt, (s3).below hy (s3).lt, h0, h1, h2, h3, h4, h5, (fun _ => rfl), h7, h8, h9, (fun h => (h10 h).below hy), (fun h => (h11 h).below hy), (fun h => (h12 h).below hy), (fun h => (h13 h).below hy), d10_11⟩
    · intro L v W2 hd hn ⟨hB, hz, s0, s1, s2, s3, h0, h1, h2, h3, h4, h5, h6, h7, h8, h9, h10, h11, h12, h13, d10_11⟩ K hK
      have e6 := h6 (hd ⟨6, .data⟩ (by simp) rfl)
      go_wp2_with fail
      exact hK _ (.tuple #[(.agg (bcells 128 (Q))), (.agg (bcells 64 (mmP p f g m)))]) _ (by simp only [Act.put, List.setIfInBounds_toArray, List.set_cons_zero, List.set_cons_succ, e6]) ⟨hB, hz, s0, s1, s2, s3, h0, h1, h2, h3, h4, h5, h6, (fun _ => rfl), h8, h9, h10, h11, h12, h13, d10_11⟩
    · intro L v W2 hd hn ⟨hB, hz, s0, s1, s2, s3, h0, h1, h2, h3, h4, h5, h6, h7, h8, h9, h10, h11, h12, h13, d10_11⟩ K hK
      have e7 := h7 (hd ⟨7, .data⟩ (by simp) rfl)
      go_wp2_with fail
      exact hK _ (.agg (bcells 128 (Q))) _ (by simp only [Act.put, List.setIfInBounds_toArray, List.set_cons_zero, List.set_cons_succ, e7]) ⟨hB, hz, s0, s1, s2, s3, h0, h1, h2, h3, h4, h5, h6, h7, (fun _ => rfl), h9, h10, h11, h12, h13, d10_11⟩
    · intro L v W2 hd hn ⟨hB, hz, s0, s1, s2, s3, h0, h1, h2, h3, h4, h5, h6, h7, h8, h9, h10, h11, h12, h13, d10_11⟩ K hK
      have e7 := h7 (hd ⟨7, .data⟩ (by simp) rfl)
      go_wp2_with fail
      exact hK _ (.agg (bcells 64 (mmP p f g m))) _ (by simp only [Act.put, List.setIfInBounds_toArray, List.set_cons_zero, List.set_cons_succ, e7]) ⟨hB, hz, s0, s1, s2, s3, h0, h1, h2, h3, h4, h5, h6, h7, h8, (fun _ => rfl), h10, h11, h12, h13, d10_11⟩
    · intro L v W2 hd hn ⟨hB, hz, s0, s1, s2, s3, h0, h1, h2, h3, h4, h5, h6, h7, h8, h9, h10, h11, h12, h13, d10_11⟩ K hK
      go_wp2_with fail
      rw [← zero128]
      exact hK _ (.pointer (some ⟨W2.heap.size, 0, none⟩)) _ (by simp only [Act.put, List.setIfInBounds_toArray, List.set_cons_zero, List.set_cons_succ ]) ⟨hB.alloc hB.size _, (by simp; omega), (s0).alloc _, (s1).alloc _, (s2).alloc _, (s3).alloc _, h0, h1, h2, h3, h4, h5, h6, h7, h8, h9, (fun _ => (PF.new W2 128 118 _ hz).af), (fun h => (h11 h).below (below_alloc' _ _)), (fun h => absurd rfl (hn 12 _ rfl h ⟨10, .data⟩ (by simp) rfl)), (fun h => (h13 h).below (below_alloc' _ _)), (fun h g1 => Ne.symm ((h11 g1).ne_new))⟩
    · intro L v W2 hd hn ⟨hB, hz, s0, s1, s2, s3, h0, h1, h2, h3, h4, h5, h6, h7, h8, h9, h10, h11, h12, h13, d10_11⟩ K hK
      go_wp2_with fail
      rw [← zero64]
      exact hK _ (.pointer (some ⟨W2.heap.size, 0, none⟩)) _ (by simp only [Act.put, List.setIfInBounds_toArray, List.set_cons_zero, List.set_cons_succ ]) ⟨hB.alloc hB.size _, (by simp; omega), (s0).alloc _, (s1).alloc _, (s2).alloc _, (s3).alloc _, h0, h1, h2, h3, h4, h5, h6, h7, h8, h9, (fun h => (h10 h).below (below_alloc' _ _)), (fun _ => (PF.new W2 64 23 _ hz).af), (fun h => (h12 h).below (below_alloc' _ _)), (fun h => absurd rfl (hn 13 _ rfl h ⟨11, .data⟩ (by simp) rfl)), (fun h g1 => (h10 h).ne_new)⟩
    · intro L v W2 hd hn ⟨hB, hz, s0, s1, s2, s3, h0, h1, h2, h3, h4, h5, h6, h7, h8, h9, h10, h11, h12, h13, d10_11⟩ K hK
      have e8 := h8 (hd ⟨8, .data⟩ (by simp) rfl)
      obtain ⟨gz, b, ea, hN, hk⟩ := (h10 (hd ⟨10, .data⟩ (by simp) rfl)).out
      refine wp_store_blk 118 _ _ rfl b 128 (Q) ea e8 118 gz hk Try.size118 ?_
      exact hK _ undef _ rfl ⟨below_row hB (Nat.le_trans hbase hN) _, (by simpa [World.setRow] using hz), (s0).rowOther (by omega), (s1).rowOther (by omega), (s2).rowOther (by omega), (s3).rowOther (by omega), h0, h1, h2, h3, h4, h5, h6, h7, h8, h9, (fun h => (h10 h).row hk), (fun h => (h11 h).row hk), (fun _ => by rw [show updV v 12 undef 10 = v 10 from rfl, ea]; exact PF.row hk hN _), (fun h => (h13 h).rowOther (by rw [← ea]; exact (Ne.symm (d10_11 (hd ⟨10, .data⟩ (by simp) rfl) (hd ⟨11, .phase⟩ (by simp) rfl))))), d10_11⟩
    · intro L v W2 hd hn ⟨hB, hz, s0, s1, s2, s3, h0, h1, h2, h3, h4, h5, h6, h7, h8, h9, h10, h11, h12, h13, d10_11⟩ K hK
      have e9 := h9 (hd ⟨9, .data⟩ (by simp) rfl)
      obtain ⟨gz, b, ea, hN, hk⟩ := (h11 (hd ⟨11, .data⟩ (by simp) rfl)).out
      refine wp_store_blk 23 _ _ rfl b 64 (mmP p f g m) ea e9 23 gz hk Try.size23 ?_
      exact hK _ undef _ rfl ⟨below_row hB (Nat.le_trans hbase hN) _, (by simpa [World.setRow] using hz), (s0).rowOther (by omega), (s1).rowOther (by omega), (s2).rowOther (by omega), (s3).rowOther (by omega), h0, h1, h2, h3, h4, h5, h6, h7, h8, h9, (fun h => (h10 h).row hk), (fun h => (h11 h).row hk), (fun h => (h12 h).rowOther (by rw [← ea]; exact (d10_11 (hd ⟨10, .phase⟩ (by simp) rfl) (hd ⟨11, .data⟩ (by simp) rfl)))), (fun _ => by rw [show updV v 13 undef 11 = v 11 from rfl, ea]; exact PF.row hk hN _), d10_11⟩
  · intro L v W2 hL ⟨hB, hz, s0, s1, s2, s3, h0, h1, h2, h3, h4, h5, h6, h7, h8, h9, h10, h11, h12, h13, d10_11⟩
    have e0 := h0 (hL 0 (by decide))
    have e1 := h1 (hL 1 (by decide))
    have e2 := h2 (hL 2 (by decide))
    have e3 := h3 (hL 3 (by decide))
    have e4 := h4 (hL 4 (by decide))
    have e5 := h5 (hL 5 (by decide))
    have e6 := h6 (hL 6 (by decide))
    have e7 := h7 (hL 7 (by decide))
    have e8 := h8 (hL 8 (by decide))
    have e9 := h9 (hL 9 (by decide))
    obtain ⟨k1_10, e10, hNk1_10, hk1_10⟩ := (h12 (hL 12 (by decide))).out
    obtain ⟨k1_11, e11, hNk1_11, hk1_11⟩ := (h13 (hL 13 (by decide))).out
    have n10_11 := d10_11 (hL 10 (by decide)) (hL 11 (by decide))
    clear hL h0 h1 h2 h3 h4 h5 h6 h7 h8 h9 h10 h11 h12 h13 d10_11
    rw [e10, e11] at n10_11
    have mk1_10_11 : k1_10 ≠ k1_11 := fun h => n10_11 (by rw [h])
    clear n10_11
    simp only [Exit.then, e0, e1, e2, e3, e4, e5, e6, e7, e8, e9, e10, e11]
    clear e0 e1 e2 e3 e4 e5 e6 e7 e8 e9 e10 e11
    clear B0
    have B0 := s0
    clear s0
    clear B1
    have B1 := s1
    clear s1
    clear B2
    have B2 := s2
    clear s2
    clear B3
    have B3 := s3
    clear s3
    clear hb
    have hb := hB
    clear hB
    have B4 := hk1_10
    clear hk1_10
    have zk1_10_0 : w.heap.size < k1_10 := by omega
    have zk1_10_1 : w.heap.size + 1 < k1_10 := by omega
    have zk1_10_2 : w.heap.size + 1 + 1 < k1_10 := by omega
    have zk1_10_3 : w.heap.size + 1 + 1 + 1 < k1_10 := by omega
    have B5 := hk1_11
    clear hk1_11
    have zk1_11_0 : w.heap.size < k1_11 := by omega
    have zk1_11_1 : w.heap.size + 1 < k1_11 := by omega
    have zk1_11_2 : w.heap.size + 1 + 1 < k1_11 := by omega
    have zk1_11_3 : w.heap.size + 1 + 1 + 1 < k1_11 := by omega
    clear hbase hz lt_B0 lt_B1 lt_B2 lt_B3
    go_upto_region 2 with (fail)
    have lt_B0 := B0.lt
    have lt_B1 := B1.lt
    have lt_B2 := B2.lt
    have lt_B3 := B3.lt
    have lt_B4 := B4.lt
    have lt_B5 := B5.lt
    go_wp2_with (first | rw [← zero64] | (refine wpList_load_any rfl 23 (.tmp 10) rfl _ rfl 64 23 _ (B5) _ Try.underlying23 rfl Try.size23 ?_) | (refine wpList_store_blk rfl 23 (.tmp 8) (.tmp 21) rfl _ 64 (mmP p f g m) rfl rfl 23 _ (B3) Try.size23 ?_; try simp only [Act.put]))
    have qB0 : Blk (W2.setRow (w.heap.size + 1 + 1 + 1) (bcells 64 (mmP p f g m))) (w.heap.size) 64 23 (f) := (B0.rowOther (by omega))
    have qB1 : Blk (W2.setRow (w.heap.size + 1 + 1 + 1) (bcells 64 (mmP p f g m))) (w.heap.size + 1) 64 23 (g) := (B1.rowOther (by omega))
    have qB2 : Blk (W2.setRow (w.heap.size + 1 + 1 + 1) (bcells 64 (mmP p f g m))) (w.heap.size + 1 + 1) 64 23 (m) := (B2.rowOther (by omega))
    have qB3 : Blk (W2.setRow (w.heap.size + 1 + 1 + 1) (bcells 64 (mmP p f g m))) (w.heap.size + 1 + 1 + 1) 64 23 (mmP p f g m) := (B3.row (mmP p f g m))
    have qB4 : Blk (W2.setRow (w.heap.size + 1 + 1 + 1) (bcells 64 (mmP p f g m))) (k1_10) 128 118 (Q) := (B4.rowOther (by omega))
    have qB5 : Blk (W2.setRow (w.heap.size + 1 + 1 + 1) (bcells 64 (mmP p f g m))) (k1_11) 64 23 (mmP p f g m) := (B5.rowOther (by omega))
    have qhb : Below w.heap.size w (W2.setRow (w.heap.size + 1 + 1 + 1) (bcells 64 (mmP p f g m))) := (below_row hb (by omega) _)
    obtain ⟨W3, hwo⟩ : ∃ v : World, v = (W2.setRow (w.heap.size + 1 + 1 + 1) (bcells 64 (mmP p f g m))) := ⟨_, rfl⟩
    rw [← hwo] at qB0 qB1 qB2 qB3 qB4 qB5 qhb ⊢
    clear hwo
    clear B0 B1 B2 B3 B4 B5 hb
    have B0 := qB0
    have B1 := qB1
    have B2 := qB2
    have B3 := qB3
    have B4 := qB4
    have B5 := qB5
    have hb := qhb
    clear qB0 qB1 qB2 qB3 qB4 qB5 qhb
    try simp only [Act.put, List.setIfInBounds_toArray, List.set_cons_zero, List.set_cons_succ]
    refine bodyPost_ret (results_blk rfl _ _ _ 64 23 5 _ rfl B3 Try.underlying23 Try.size23) rfl ⟨rfl, hb⟩
theorem tmod_nat (x p : Nat) : ((x : Int)).tmod (p : Int) = ((x % p : Nat) : Int) := by rw [Int.tmod_eq_emod_of_nonneg (by omega)]; rfl
set_option maxRecDepth 100000 in
set_option maxHeartbeats 1600000 in
theorem l01Up_any (p : Nat) (f m : Nat → Nat) (w : World) (hpr : p = 2 ∨ p = 3 ∨ p = 5 ∨ p = 7) (lf : ∀ k, k < 64 → f k < p) (lm : ∀ k, k < 64 → m k < p) (h0 : 0 ≤ deg m) :
    Calls Try.prog 189 #[.int .i64 (p : Int), .agg (bcells 64 f), .agg (bcells 64 m)] w fun e w' => e = .returned (.agg (bcells 64 (upP p f m))) ∧ Below w.heap.size w w' := by
  have p2 : 2 ≤ p := by omega
  have p7 : p ≤ 7 := by omega
  obtain ⟨d, hd⟩ : ∃ d : Nat, deg m = (d : Int) := ⟨(deg m).toNat, by omega⟩
  obtain ⟨d6, md, _⟩ := deg_top hd
  have HD := Lib.hid hd
  clear h0 hd
  go_enter Try.func189, Try.ntmps189
  go_upto_region 1 with (fail)
  rw [← zero64]
  obtain ⟨W1, hwo⟩ : ∃ v : World, v = (((w.alloc (.cells (bcells 64 (f)) 23)).alloc (.cells (bcells 64 (m)) 23)).alloc (.cells (bcells 64 fun _ => 0) 23)) := ⟨_, rfl⟩
  have B0 : Blk W1 (w.heap.size) 64 23 (f) := by subst hwo; have := (((Blk.new w 64 23 (f)).alloc (.cells (bcells 64 (m)) 23)).alloc (.cells (bcells 64 fun _ => 0) 23)); simpa using this
  have B1 : Blk W1 (w.heap.size + 1) 64 23 (m) := by subst hwo; have := ((Blk.new (w.alloc (.cells (bcells 64 (f)) 23)) 64 23 (m)).alloc (.cells (bcells 64 fun _ => 0) 23)); simpa using this
  have B2 : Blk W1 (w.heap.size + 1 + 1) 64 23 (fun _ => 0) := by subst hwo; have := (Blk.new ((w.alloc (.cells (bcells 64 (f)) 23)).alloc (.cells (bcells 64 (m)) 23)) 64 23 (fun _ => 0)); simpa using this
  have hb : Below w.heap.size w W1 := by subst hwo; exact ((((Below.refl _ _).alloc (Nat.le_refl _) _).alloc (by simp) _).alloc (by simp; omega) _)
  rw [← hwo]
  clear hwo
  go_upto_region 2 with (first | (refine wpList_load_any rfl 23 (.tmp 5) rfl _ rfl 64 23 _ (B1) _ Try.underlying23 rfl Try.size23 ?_) | (go_at_call 73; refine (l01Deg_any m _).mono ?_; rintro e W2 ⟨rfl, hW2⟩; replace B0 := B0.below hW2 B0.lt; replace B1 := B1.below hW2 B1.lt; replace B2 := B2.below hW2 B2.lt; replace hb := (hb).trans (hW2.mono (hb).size); rw [HD.out]))
  by_cases hd0 : d = 0
  · have HV := Lib.hid (show bcells 64 (upP p f m) = bcells 64 (fun _ => 0) from bcells_congr (fun i _ => by unfold upP; rw [HD.out, if_neg (by omega)]))
    subst hd0
    go_upto_region 3 with (fail)
    have lt_B0 := B0.lt
    have lt_B1 := B1.lt
    have lt_B2 := B2.lt
    go_wp2_with (first | rw [← zero64] | (refine wpList_store_blk rfl 23 (.tmp 6) (.tmp 17) rfl _ 64 (fun _ => 0) rfl rfl 23 _ (B2) Try.size23 ?_; try simp only [Act.put]))
    have qB0 : Blk (W2.setRow (w.heap.size + 1 + 1) (bcells 64 (fun _ => 0))) (w.heap.size) 64 23 (f) := (B0.rowOther (by omega))
    have qB1 : Blk (W2.setRow (w.heap.size + 1 + 1) (bcells 64 (fun _ => 0))) (w.heap.size + 1) 64 23 (m) := (B1.rowOther (by omega))
    have qB2 : Blk (W2.setRow (w.heap.size + 1 + 1) (bcells 64 (fun _ => 0))) (w.heap.size + 1 + 1) 64 23 (fun _ => 0) := (B2.row (fun _ => 0))
    have qhb : Below w.heap.size w (W2.setRow (w.heap.size + 1 + 1) (bcells 64 (fun _ => 0))) := (below_row hb (by omega) _)
    obtain ⟨W3, hwo⟩ : ∃ v : World, v = (W2.setRow (w.heap.size + 1 + 1) (bcells 64 (fun _ => 0))) := ⟨_, rfl⟩
    rw [← hwo] at qB0 qB1 qB2 qhb ⊢
    clear hwo
    clear B0 B1 B2 hb
    have B0 := qB0
    have B1 := qB1
    have B2 := qB2
    have hb := qhb
    clear qB0 qB1 qB2 qhb
    try simp only [Act.put, List.setIfInBounds_toArray, List.set_cons_zero, List.set_cons_succ]
    refine bodyPost_ret (results_blk rfl _ _ _ 64 23 5 _ rfl B2 Try.underlying23 Try.size23) rfl ⟨by rw [HV.out], hb⟩
  · obtain ⟨D, rfl⟩ : ∃ D, d = D + 1 := ⟨d - 1, by omega⟩
    have e1 : ((D + 1 : Nat) : Int) = (D : Int) + 1 := by push_cast; rfl
    have HE := Lib.hid e1
    rw [e1]
    clear e1
    have cc := B0.cell (i := D) (by omega)
    have hfD := lf D (by omega)
    go_upto_region 4 with (fail)
    have lt_B0 := B0.lt
    have lt_B1 := B1.lt
    have lt_B2 := B2.lt
    go_upto_region 5 with (first | rw [← zero64] | (refine wpList_store_blk rfl 23 (.tmp 9) (.tmp 23) rfl _ 64 (fun _ => 0) rfl rfl 23 _ ((Blk.new W2 64 23 (fun _ => 0))) Try.size23 ?_; try simp only [Act.put]))
    have lt_B0 := B0.lt
    have lt_B1 := B1.lt
    have lt_B2 := B2.lt
    have lhb := hb.size
    have qB0 : Blk ((W2.alloc (.cells (bcells 64 fun _ => 0) 23)).setRow (W2.heap.size) (bcells 64 (fun _ => 0))) (w.heap.size) 64 23 (f) := ((B0.alloc (.cells (bcells 64 fun _ => 0) 23)).rowOther (by omega))
    have qB1 : Blk ((W2.alloc (.cells (bcells 64 fun _ => 0) 23)).setRow (W2.heap.size) (bcells 64 (fun _ => 0))) (w.heap.size + 1) 64 23 (m) := ((B1.alloc (.cells (bcells 64 fun _ => 0) 23)).rowOther (by omega))
    have qB2 : Blk ((W2.alloc (.cells (bcells 64 fun _ => 0) 23)).setRow (W2.heap.size) (bcells 64 (fun _ => 0))) (w.heap.size + 1 + 1) 64 23 (fun _ => 0) := ((B2.alloc (.cells (bcells 64 fun _ => 0) 23)).rowOther (by omega))
    have qB3 : Blk ((W2.alloc (.cells (bcells 64 fun _ => 0) 23)).setRow (W2.heap.size) (bcells 64 (fun _ => 0))) (W2.heap.size) 64 23 (fun _ => 0) := ((Blk.new W2 64 23 (fun _ => 0)).row (fun _ => 0))
    have qhb : Below w.heap.size w ((W2.alloc (.cells (bcells 64 fun _ => 0) 23)).setRow (W2.heap.size) (bcells 64 (fun _ => 0))) := (below_row (hb.alloc (by have := hb.size; simp; omega) (.cells (bcells 64 fun _ => 0) 23)) (by omega) _)
    obtain ⟨W3, hwo⟩ : ∃ v : World, v = ((W2.alloc (.cells (bcells 64 fun _ => 0) 23)).setRow (W2.heap.size) (bcells 64 (fun _ => 0))) := ⟨_, rfl⟩
    rw [← hwo] at qB0 qB1 qB2 qB3 qhb ⊢
    clear hwo
    clear B0 B1 B2 hb
    have B0 := qB0
    have B1 := qB1
    have B2 := qB2
    have B3 := qB3
    have hb := qhb
    clear qB0 qB1 qB2 qB3 qhb
    obtain ⟨N1, hNN⟩ : ∃ n : Nat, n = W2.heap.size := ⟨_, rfl⟩
    rw [← hNN] at lt_B0 lt_B1 lt_B2 lhb B3 ⊢
    clear hNN
    have zN1_0 := lt_B0
    have zN1_1 := lt_B1
    have zN1_2 := lt_B2
    have zN1 := lhb
    clear lt_B0 lt_B1 lt_B2 lhb
    try simp only [Act.put, List.setIfInBounds_toArray, List.set_cons_zero, List.set_cons_succ]
    clear cc
    go_wp2_with fail
    go_loopw [10] (fun i wr => ∃ k : Nat, 1 ≤ k ∧ k ≤ D + 1 ∧ i = .int .i64 (k : Int) ∧ Below w.heap.size w wr ∧ Blk wr w.heap.size 64 23 f ∧ Blk wr (w.heap.size + 1) 64 23 m ∧ Blk wr (w.heap.size + 1 + 1) 64 23 (fun _ => 0) ∧ Blk wr N1 64 23 (shA f k)) (fun i _ => D + 1 - (intOf i).toNat)
    case atStart => exact ⟨1, by omega, by omega, rfl, hb, B0, B1, B2, B3.congr (fun i _ => by unfold shA; rw [if_neg (by omega)])⟩
    case round =>
      clear hb B0 B1 B2 B3
      obtain ⟨k, hk1, hk2, rfl, hb, B0, B1, B2, B3⟩ := hrel
      by_cases hlt : k < D + 1
      · obtain ⟨j, rfl⟩ : ∃ j, k = j + 1 := ⟨k - 1, by omega⟩
        have c1 := B0.cell (i := j) (by omega)
        have c2 := B3.cell (i := j + 1) (by omega)
        have z2 := B3.frozen (j + 1)
        have hfj := lf j (by omega)
        have e1 : ((j + 1 : Nat) : Int) = (j : Int) + 1 := by push_cast; rfl
        have HJ := Lib.hid e1
        rw [e1]
        clear e1
        have hltI : (j : Int) + 1 < (D : Int) + 1 := by omega
        go_wp2_with fail
        go_roundw
        case rel =>
          refine ⟨j + 1 + 1, by omega, by omega, by rw [show ((j + 1 + 1 : Nat) : Int) = (j : Int) + 1 + 1 by omega], hb.setCell (by simp; omega) _, B0.setOther (by simp; omega), B1.setOther (by simp; omega), B2.setOther (by simp; omega), ?_⟩
          refine (B3.set (v := f j) rfl).congr (fun i _ => ?_)
          unfold upd shA
          by_cases h : i = j + 1
          · subst h; rw [if_pos rfl, if_pos (by omega), show j + 1 - 1 = j by omega]
          · rw [if_neg h]
            by_cases h2 : 1 ≤ i ∧ i < j + 1
            · rw [if_pos h2, if_pos (by omega)]
            · rw [if_neg h2, if_neg (by omega)]
        case measure => simp [intOf] <;> omega
      · obtain rfl : k = D + 1 := by omega
        have cm := B1.cell (i := D + 1) (by omega)
        have hmD := lm (D + 1) d6
        obtain ⟨iv1, iv2, iv3, _⟩ := invF hpr md hmD
        obtain ⟨inv, hinv⟩ : ∃ v, v = invN p (m (D + 1)) := ⟨_, rfl⟩
        have HN := Lib.hid (fun W => l01Inverse_any p (m (D + 1)) W hpr md hmD)
        rw [← hinv] at iv1 iv2 iv3 HN
        obtain ⟨m1, m2⟩ := small_nat_mul p7 hfD iv2
        obtain ⟨F, hF⟩ : ∃ F, F = f D * inv % p := ⟨_, rfl⟩
        have hFp : F < p := by rw [hF]; exact Nat.mod_lt _ (by omega)
        have hFe : ((f D : Int) * (inv : Int)).tmod (p : Int) = (F : Int) := by rw [hF, Int.tmod_eq_emod_of_nonneg m2]; push_cast; rfl
        have hFe2 : (f D : Int) * (inv : Int) % (p : Int) = (F : Int) := by rw [hF]; push_cast; rfl
        have HUF := Lib.hid (show upF p f m = F by unfold upF; rw [HD.out, Int.toNat_natCast, ← hinv, hF]; rfl)
        have HI := Lib.hid (And.intro hinv hF)
        clear hinv hF iv3
        go_wp2_with (go_at_call 171; refine (HN.out _).mono ?_; rintro e wS ⟨rfl, rfl⟩)
        clear cm hFe hFe2 m1 m2 HN
        go_loopw [12] (fun i wr => ∃ k : Nat, k ≤ D + 1 ∧ i = .int .i64 (k : Int) ∧ Below w.heap.size w wr ∧ Blk wr w.heap.size 64 23 f ∧ Blk wr (w.heap.size + 1) 64 23 m ∧ Blk wr (w.heap.size + 1 + 1) 64 23 (fun _ => 0) ∧ Blk wr N1 64 23 (fun i => if i < k then upP p f m i else shA f (D + 1) i)) (fun i _ => D + 1 - (intOf i).toNat)
        case atStart => exact ⟨0, by omega, rfl, hb, B0, B1, B2, B3.congr (fun i _ => by rw [if_neg (by omega)])⟩
        case round =>
          clear hb B0 B1 B2 B3
          obtain ⟨k, hk, rfl, hb, B0, B1, B2, B3⟩ := hrel
          by_cases hlt : k < D + 1
          · have c4 := B3.cell (i := k) (by omega)
            rw [if_neg (Nat.lt_irrefl k)] at c4
            have c5 := B1.cell (i := k) (by omega)
            have z4 := B3.frozen k
            obtain ⟨A, hA⟩ : ∃ A, A = shA f (D + 1) k := ⟨_, rfl⟩
            obtain ⟨M, hM⟩ : ∃ M, M = m k := ⟨_, rfl⟩
            have hAp : A < p := by
              rw [hA]; unfold shA; split
              · exact lf _ (by omega)
              · omega
            have hMp : M < p := by rw [hM]; exact lm k (by omega)
            have HU := Lib.hid (show upP p f m k = (A + (p - F) * M) % p by
              unfold upP; rw [HD.out, if_pos (by omega), Int.toNat_natCast, HUF.out, hA, hM])
            rw [← hA] at c4
            rw [← hM] at c5
            clear hA hM
            obtain ⟨m1, m2⟩ := small_nat_mul p7 hFp hMp
            have t1 : -(p : Int) < ((A : Int) - (F : Int) * (M : Int)).tmod p := by
              have := Int.tmod_lt_of_pos (-((A : Int) - (F : Int) * (M : Int))) (b := (p : Int)) (by omega)
              rw [Int.neg_tmod] at this; omega
            have t2 : ((A : Int) - (F : Int) * (M : Int)).tmod p < (p : Int) := Int.tmod_lt_of_pos _ (by omega)
            have hX : Hid (((A : Int) - (F : Int) * (M : Int)).tmod p % p % 256 = (upP p f m k : Int)) := by
              have e1 : ((A : Int) - (F : Int) * (M : Int)).tmod p % p = ((A : Int) - (F : Int) * (M : Int)) % p := by rw [Int.tmod_def, Int.sub_mul_emod_self_left]
              have e2 := Int.emod_nonneg ((A : Int) - (F : Int) * (M : Int)) (b := (p : Int)) (by omega)
              have e3 := Int.emod_lt_of_pos ((A : Int) - (F : Int) * (M : Int)) (b := (p : Int)) (by omega)
              rw [HU.out, e1, ← take_off (by omega : F ≤ p)]
              exact Int.emod_eq_of_lt e2 (by omega)
            have hm0 : (0 : Int) ≤ ((A : Int) - (F : Int) * (M : Int)).tmod p + p := by omega
            have hltI : (k : Int) < (D : Int) + 1 := by omega
            go_wp2_with fail
            go_region
            go_wp2_with fail
            go_roundw
            case rel =>
              refine ⟨k + 1, by omega, by go_num, (hb.setCell (by simp; omega) _).drew, (B0.setOther (by simp; omega)).drew, (B1.setOther (by simp; omega)).drew, (B2.setOther (by simp; omega)).drew, ?_⟩
              exact ((B3.set (v := upP p f m k) hX.out).congr (fun i _ => upd_lt (a := upP p f m) rfl i)).drew
            case measure => simp [intOf] <;> omega
          · obtain rfl : k = D + 1 := by omega
            have HV := Lib.hid (show bcells 64 (fun i => if i < D + 1 then upP p f m i else shA f (D + 1) i) = bcells 64 (upP p f m) from bcells_congr (fun i _ => by
              by_cases h : i < D + 1
              · rw [if_pos h]
              · rw [if_neg h]; unfold shA upP; rw [if_neg (by omega), HD.out, if_neg (by omega)]))
            have hltI : ¬ ((D : Int) + 1 < (D : Int) + 1) := by omega
            rw [show (((D + 1 : Nat) : Int)) = (D : Int) + 1 by push_cast; rfl]
            go_wp2_with (first | (refine wpList_load_any rfl 23 (.tmp 9) rfl _ rfl 64 23 _ B3 _ Try.underlying23 rfl Try.size23 ?_) | (refine wpList_store_blk rfl 23 (.tmp 6) (.tmp 70) rfl _ 64 _ rfl rfl 23 _ B2 Try.size23 ?_))
            refine bodyPost_ret (results_blk rfl _ _ _ 64 23 5 _ rfl (B2.row _) Try.underlying23 Try.size23) rfl ⟨by rw [HV.out], below_row hb (by omega) _⟩
end Go.Proofs.Ytbjpkmbhbpcbgaa
