/-
  Walks: the model's product modulo a polynomial, and its powers.
-/
import Derived.Test.YtbjpkmbhbpcbgaaW29
namespace Go.Proofs.Ytbjpkmbhbpcbgaa
open Go.RowKit
set_option linter.unusedVariables false
set_option linter.unusedSimpArgs false
attribute [local irreducible] deg invN dS qS stp stpr quoP resP oneP upP upF hmR mmP shA addK
set_option maxRecDepth 100000 in
set_option maxHeartbeats 1600000 in
theorem l01MulMod_any (p : Nat) (f g m : Nat → Nat) (w : World) (hpr : p = 2 ∨ p = 3 ∨ p = 5 ∨ p = 7) (lf : ∀ k, k < 64 → f k < p) (lg : ∀ k, k < 64 → g k < p) (lm : ∀ k, k < 64 → m k < p) (h0 : 0 ≤ deg m) :
    Calls Try.prog 163 #[.int .i64 (p : Int), .agg (bcells 64 f), .agg (bcells 64 g), .agg (bcells 64 m)] w fun e w' => e = .returned (.agg (bcells 64 (mmP p f g m))) ∧ Below w.heap.size w w' := by
  have p0 : 0 < p := by omega
  have p2 : 2 ≤ p := by omega
  have p7 : p ≤ 7 := by omega
  obtain ⟨gb1, gb2⟩ := deg_bounds g
  obtain ⟨NN, hNN⟩ : ∃ NN : Nat, deg g + 1 = (NN : Int) := ⟨(deg g + 1).toNat, by omega⟩
  have HD := Lib.hid (show deg g = (NN : Int) - 1 by omega)
  have HV := Lib.hid (bcells_congr (hmR_mmP (a := f) hpr lf lm h0 hNN))
  have HS := Lib.hid (fun j (hj : j ≤ NN - 1 + 1) => hmR_spec (n := NN - 1) (b := g) hpr lf lm h0 j hj)
  have hN6 : NN ≤ 64 := by omega
  have HUP := Lib.hid (fun (a : Nat → Nat) (ha : ∀ k, k < 64 → a k < p) W => l01Up_any p a m W hpr ha lm h0)
  have HMO := Lib.hid (fun (a : Nat → Nat) (ha : ∀ k, k < 64 → a k < p) W => l01Mod_any p a m W hpr ha lm h0)
  clear hNN
  go_enter Try.func163, Try.ntmps163
  go_upto_region 1 with (fail)
  rw [← zero64]
  obtain ⟨W1, hwo⟩ : ∃ v : World, v = ((((w.alloc (.cells (bcells 64 (f)) 23)).alloc (.cells (bcells 64 (g)) 23)).alloc (.cells (bcells 64 (m)) 23)).alloc (.cells (bcells 64 fun _ => 0) 23)) := ⟨_, rfl⟩
  have B0 : Blk W1 (w.heap.size) 64 23 (f) := by subst hwo; have := ((((Blk.new w 64 23 (f)).alloc (.cells (bcells 64 (g)) 23)).alloc (.cells (bcells 64 (m)) 23)).alloc (.cells (bcells 64 fun _ => 0) 23)); simpa using this
  have B1 : Blk W1 (w.heap.size + 1) 64 23 (g) := by subst hwo; have := (((Blk.new (w.alloc (.cells (bcells 64 (f)) 23)) 64 23 (g)).alloc (.cells (bcells 64 (m)) 23)).alloc (.cells (bcells 64 fun _ => 0) 23)); simpa using this
  have B2 : Blk W1 (w.heap.size + 1 + 1) 64 23 (m) := by subst hwo; have := ((Blk.new ((w.alloc (.cells (bcells 64 (f)) 23)).alloc (.cells (bcells 64 (g)) 23)) 64 23 (m)).alloc (.cells (bcells 64 fun _ => 0) 23)); simpa using this
  have B3 : Blk W1 (w.heap.size + 1 + 1 + 1) 64 23 (fun _ => 0) := by subst hwo; have := (Blk.new (((w.alloc (.cells (bcells 64 (f)) 23)).alloc (.cells (bcells 64 (g)) 23)).alloc (.cells (bcells 64 (m)) 23)) 64 23 (fun _ => 0)); simpa using this
  have hb : Below w.heap.size w W1 := by subst hwo; exact (((((Below.refl _ _).alloc (Nat.le_refl _) _).alloc (by simp) _).alloc (by simp; omega) _).alloc (by simp; omega) _)
  rw [← hwo]
  clear hwo
  have lt_B0 := B0.lt
  have lt_B1 := B1.lt
  have lt_B2 := B2.lt
  have lt_B3 := B3.lt
  go_upto_region 2 with (first | rw [← zero64] | (refine wpList_store_blk rfl 23 (.tmp 9) (.tmp 11) rfl _ 64 (fun _ => 0) rfl rfl 23 _ ((Blk.new W1 64 23 (fun _ => 0))) Try.size23 ?_; try simp only [Act.put]))
  have lt_B0 := B0.lt
  have lt_B1 := B1.lt
  have lt_B2 := B2.lt
  have lt_B3 := B3.lt
  have lhb := hb.size
  have qB0 : Blk ((W1.alloc (.cells (bcells 64 fun _ => 0) 23)).setRow (W1.heap.size) (bcells 64 (fun _ => 0))) (w.heap.size) 64 23 (f) := ((B0.alloc (.cells (bcells 64 fun _ => 0) 23)).rowOther (by omega))
  have qB1 : Blk ((W1.alloc (.cells (bcells 64 fun _ => 0) 23)).setRow (W1.heap.size) (bcells 64 (fun _ => 0))) (w.heap.size + 1) 64 23 (g) := ((B1.alloc (.cells (bcells 64 fun _ => 0) 23)).rowOther (by omega))
  have qB2 : Blk ((W1.alloc (.cells (bcells 64 fun _ => 0) 23)).setRow (W1.heap.size) (bcells 64 (fun _ => 0))) (w.heap.size + 1 + 1) 64 23 (m) := ((B2.alloc (.cells (bcells 64 fun _ => 0) 23)).rowOther (by omega))
  have qB3 : Blk ((W1.alloc (.cells (bcells 64 fun _ => 0) 23)).setRow (W1.heap.size) (bcells 64 (fun _ => 0))) (w.heap.size + 1 + 1 + 1) 64 23 (fun _ => 0) := ((B3.alloc (.cells (bcells 64 fun _ => 0) 23)).rowOther (by omega))
  have qB4 : Blk ((W1.alloc (.cells (bcells 64 fun _ => 0) 23)).setRow (W1.heap.size) (bcells 64 (fun _ => 0))) (W1.heap.size) 64 23 (fun _ => 0) := ((Blk.new W1 64 23 (fun _ => 0)).row (fun _ => 0))
  have qhb : Below w.heap.size w ((W1.alloc (.cells (bcells 64 fun _ => 0) 23)).setRow (W1.heap.size) (bcells 64 (fun _ => 0))) := (below_row (hb.alloc (by have := hb.size; simp; omega) (.cells (bcells 64 fun _ => 0) 23)) (by omega) _)
  obtain ⟨W2, hwo⟩ : ∃ v : World, v = ((W1.alloc (.cells (bcells 64 fun _ => 0) 23)).setRow (W1.heap.size) (bcells 64 (fun _ => 0))) := ⟨_, rfl⟩
  rw [← hwo] at qB0 qB1 qB2 qB3 qB4 qhb ⊢
  clear hwo
  clear B0 B1 B2 B3 hb
  have B0 := qB0
  have B1 := qB1
  have B2 := qB2
  have B3 := qB3
  have B4 := qB4
  have hb := qhb
  clear qB0 qB1 qB2 qB3 qB4 qhb
  obtain ⟨N1, hNN⟩ : ∃ n : Nat, n = W1.heap.size := ⟨_, rfl⟩
  rw [← hNN] at lt_B0 lt_B1 lt_B2 lt_B3 lhb B4 ⊢
  clear hNN
  have zN1_0 := lt_B0
  have zN1_1 := lt_B1
  have zN1_2 := lt_B2
  have zN1_3 := lt_B3
  have zN1 := lhb
  clear lt_B0 lt_B1 lt_B2 lt_B3 lhb
  try simp only [Act.put, List.setIfInBounds_toArray, List.set_cons_zero, List.set_cons_succ]
  go_upto_region 99 with (first | (refine wpList_load_any rfl 23 (.tmp 6) rfl _ rfl 64 23 _ (B1) _ Try.underlying23 rfl Try.size23 ?_) | (go_at_call 73; refine (l01Deg_any g _).mono ?_; rintro e W3 ⟨rfl, hW3⟩; replace B0 := B0.below hW3 B0.lt; replace B1 := B1.below hW3 B1.lt; replace B2 := B2.below hW3 B2.lt; replace B3 := B3.below hW3 B3.lt; replace B4 := B4.below hW3 B4.lt; replace hb := (hb).trans (hW3.mono (hb).size); rw [HD.out]))
  go_loopw [10] (fun i wr => ∃ q j : Nat, Hid (q + j = NN) ∧ i = .int .i64 ((q : Int) - 1) ∧ Below w.heap.size w wr ∧ Blk wr w.heap.size 64 23 f ∧ Blk wr (w.heap.size + 1) 64 23 g ∧ Blk wr (w.heap.size + 1 + 1) 64 23 m ∧ Blk wr (w.heap.size + 1 + 1 + 1) 64 23 (fun _ => 0) ∧ Blk wr (N1) 64 23 (hmR p f g m (NN - 1) j)) (fun i _ => (intOf i + 1).toNat)
  case atStart => exact ⟨NN, 0, Lib.hid (by omega), rfl, hb, B0, B1, B2, B3, by rw [hmR_z]; exact B4⟩
  case round =>
    clear hb B0 B1 B2 B3 B4
    obtain ⟨q, j, hqj, rfl, hb, B0, B1, B2, B3, B4⟩ := hrel
    by_cases hq0 : q = 0
    · subst hq0
      have ej : j = NN := by have := hqj.out; omega
      rw [ej] at B4
      clear hqj ej
      go_upto_region 7 with (fail)
      have lt_B0 := B0.lt
      have lt_B1 := B1.lt
      have lt_B2 := B2.lt
      have lt_B3 := B3.lt
      have lt_B4 := B4.lt
      go_wp2_with (first | rw [← zero64] | (refine wpList_load_any rfl 23 (.tmp 9) rfl _ rfl 64 23 _ (B4) _ Try.underlying23 rfl Try.size23 ?_) | (refine wpList_store_blk rfl 23 (.tmp 8) (.tmp 33) rfl _ 64 (hmR p f g m (NN - 1) NN) rfl rfl 23 _ (B3) Try.size23 ?_; try simp only [Act.put]))
      have qB0 : Blk (wr.setRow (w.heap.size + 1 + 1 + 1) (bcells 64 (hmR p f g m (NN - 1) NN))) (w.heap.size) 64 23 (f) := (B0.rowOther (by omega))
      have qB1 : Blk (wr.setRow (w.heap.size + 1 + 1 + 1) (bcells 64 (hmR p f g m (NN - 1) NN))) (w.heap.size + 1) 64 23 (g) := (B1.rowOther (by omega))
      have qB2 : Blk (wr.setRow (w.heap.size + 1 + 1 + 1) (bcells 64 (hmR p f g m (NN - 1) NN))) (w.heap.size + 1 + 1) 64 23 (m) := (B2.rowOther (by omega))
      have qB3 : Blk (wr.setRow (w.heap.size + 1 + 1 + 1) (bcells 64 (hmR p f g m (NN - 1) NN))) (w.heap.size + 1 + 1 + 1) 64 23 (hmR p f g m (NN - 1) NN) := (B3.row (hmR p f g m (NN - 1) NN))
      have qB4 : Blk (wr.setRow (w.heap.size + 1 + 1 + 1) (bcells 64 (hmR p f g m (NN - 1) NN))) (N1) 64 23 (hmR p f g m (NN - 1) NN) := (B4.rowOther (by omega))
      have qhb : Below w.heap.size w (wr.setRow (w.heap.size + 1 + 1 + 1) (bcells 64 (hmR p f g m (NN - 1) NN))) := (below_row hb (by omega) _)
      obtain ⟨W4, hwo⟩ : ∃ v : World, v = (wr.setRow (w.heap.size + 1 + 1 + 1) (bcells 64 (hmR p f g m (NN - 1) NN))) := ⟨_, rfl⟩
      rw [← hwo] at qB0 qB1 qB2 qB3 qB4 qhb ⊢
      clear hwo
      clear B0 B1 B2 B3 B4 hb
      have B0 := qB0
      have B1 := qB1
      have B2 := qB2
      have B3 := qB3
      have B4 := qB4
      have hb := qhb
      clear qB0 qB1 qB2 qB3 qB4 qhb
      try simp only [Act.put, List.setIfInBounds_toArray, List.set_cons_zero, List.set_cons_succ]
      refine bodyPost_ret (results_blk rfl _ _ _ 64 23 5 _ rfl B3 Try.underlying23 Try.size23) rfl ⟨by rw [HV.out], hb⟩
    · obtain ⟨q, rfl⟩ : ∃ t, q = t + 1 := ⟨q - 1, by omega⟩
      rw [show ((q + 1 : Nat) : Int) - 1 = (q : Int) by omega]
      have hq6 : q < 64 := by have := hqj.out; omega
      obtain ⟨s1, s2, _⟩ := HS.out j (by have := hqj.out; omega)
      have HS1 := Lib.hid s1
      have hgq := lg q hq6
      obtain ⟨C, hC⟩ : ∃ C, C = g q := ⟨_, rfl⟩
      rw [← hC] at hgq
      have HC := Lib.hid hC
      clear hC s1 s2
      have HA := Lib.hid (fun W => l01Add_any p (upP p (hmR p f g m (NN - 1) j) m) f (C : Int) W p2 p7 (by omega) (by omega) (fun k _ => upP_lt p0 k) lf)
      have HR := Lib.hid (show resP p (addK p (upP p (hmR p f g m (NN - 1) j) m) f (C : Int)) m = hmR p f g m (NN - 1) (j + 1) by
        rw [hmR_s, HC.out, show NN - 1 - j = q by have := hqj.out; omega])
      have HM2 := Lib.hid (show ∀ W, Calls Try.prog 115 #[.int .i64 (p : Int), .agg (bcells 64 (addK p (upP p (hmR p f g m (NN - 1) j) m) f (C : Int))), .agg (bcells 64 m)] W fun e w' => e = .returned (.agg (bcells 64 (hmR p f g m (NN - 1) (j + 1)))) ∧ Below W.heap.size W w' by
        intro W
        have := HMO.out (addK p (upP p (hmR p f g m (NN - 1) j) m) f (C : Int)) (fun k _ => addK_lt p0 k) W
        rwa [HR.out] at this)
      go_upto_region 5 with (fail)
      have lt_B0 := B0.lt
      have lt_B1 := B1.lt
      have lt_B2 := B2.lt
      have lt_B3 := B3.lt
      have lt_B4 := B4.lt
      go_upto_region 6 with (first | rw [← zero64] | (refine wpList_load_any rfl 23 (.tmp 9) rfl _ rfl 64 23 _ (B4) _ Try.underlying23 rfl Try.size23 ?_) | (refine wpList_load_any rfl 23 (.tmp 7) rfl _ rfl 64 23 _ (B2) _ Try.underlying23 rfl Try.size23 ?_) | (go_at_call 189; refine (HUP.out _ HS1.out _).mono ?_; rintro e W4 ⟨rfl, hW4⟩; replace B0 := B0.below hW4 B0.lt; replace B1 := B1.below hW4 B1.lt; replace B2 := B2.below hW4 B2.lt; replace B3 := B3.below hW4 B3.lt; replace B4 := B4.below hW4 B4.lt; replace hb := (hb).trans (hW4.mono (hb).size)) | (refine wpList_store_blk rfl 23 (.tmp 9) (.tmp 21) rfl _ 64 (upP p (hmR p f g m (NN - 1) j) m) rfl rfl 23 _ (B4) Try.size23 ?_; try simp only [Act.put]))
      have qB0 : Blk (W4.setRow (N1) (bcells 64 (upP p (hmR p f g m (NN - 1) j) m))) (w.heap.size) 64 23 (f) := (B0.rowOther (by omega))
      have qB1 : Blk (W4.setRow (N1) (bcells 64 (upP p (hmR p f g m (NN - 1) j) m))) (w.heap.size + 1) 64 23 (g) := (B1.rowOther (by omega))
      have qB2 : Blk (W4.setRow (N1) (bcells 64 (upP p (hmR p f g m (NN - 1) j) m))) (w.heap.size + 1 + 1) 64 23 (m) := (B2.rowOther (by omega))
      have qB3 : Blk (W4.setRow (N1) (bcells 64 (upP p (hmR p f g m (NN - 1) j) m))) (w.heap.size + 1 + 1 + 1) 64 23 (fun _ => 0) := (B3.rowOther (by omega))
      have qB4 : Blk (W4.setRow (N1) (bcells 64 (upP p (hmR p f g m (NN - 1) j) m))) (N1) 64 23 (upP p (hmR p f g m (NN - 1) j) m) := (B4.row (upP p (hmR p f g m (NN - 1) j) m))
      have qhb : Below w.heap.size w (W4.setRow (N1) (bcells 64 (upP p (hmR p f g m (NN - 1) j) m))) := (below_row hb (by omega) _)
      obtain ⟨W5, hwo⟩ : ∃ v : World, v = (W4.setRow (N1) (bcells 64 (upP p (hmR p f g m (NN - 1) j) m))) := ⟨_, rfl⟩
      rw [← hwo] at qB0 qB1 qB2 qB3 qB4 qhb ⊢
      clear hwo
      clear B0 B1 B2 B3 B4 hb
      have B0 := qB0
      have B1 := qB1
      have B2 := qB2
      have B3 := qB3
      have B4 := qB4
      have hb := qhb
      clear qB0 qB1 qB2 qB3 qB4 qhb
      try simp only [Act.put, List.setIfInBounds_toArray, List.set_cons_zero, List.set_cons_succ]
      have lt_B0 : (w.heap.size) < W5.heap.size := B0.lt
      have lt_B1 : (w.heap.size + 1) < W5.heap.size := B1.lt
      have lt_B2 : (w.heap.size + 1 + 1) < W5.heap.size := B2.lt
      have lt_B3 : (w.heap.size + 1 + 1 + 1) < W5.heap.size := B3.lt
      have lt_B4 : (N1) < W5.heap.size := B4.lt
      have hbase : w.heap.size ≤ W5.heap.size := hb.size
      refine wp_region_steps0 Try.mixed (by kernel_rfl) (by kernel_rfl) (fun v => by (simp only [frL, Act.put, List.setIfInBounds_toArray, List.set_cons_zero, List.set_cons_succ, Nat.reduceAdd, Nat.zero_add]; exact rfl))
        (fun L v W6 => Below w.heap.size w W6 ∧ W5.heap.size ≤ W6.heap.size ∧ Blk W6 (w.heap.size) 64 23 (f) ∧ Blk W6 (w.heap.size + 1) 64 23 (g) ∧ Blk W6 (w.heap.size + 1 + 1) 64 23 (m) ∧ Blk W6 (w.heap.size + 1 + 1 + 1) 64 23 (fun _ => 0) ∧ (∃ g, Blk W6 (N1) 64 23 (g)) ∧ (L 11 = false → Blk W6 (N1) 64 23 (upP p (hmR p f g m (NN - 1) j) m)) ∧ (L 11 = true → Blk W6 (N1) 64 23 (hmR p f g m (NN - 1) (j + 1))) ∧ (L 0 = true → v 0 = (.int .i64 (p : Int))) ∧ (L 1 = true → v 1 = (.int .i64 (p : Int))) ∧ (L 2 = true → v 2 = (.agg (bcells 64 (upP p (hmR p f g m (NN - 1) j) m)))) ∧ (L 3 = true → v 3 = (.agg (bcells 64 (f)))) ∧ (L 4 = true → v 4 = (.int .i64 (q : Int))) ∧ (L 5 = true → v 5 = (.pointer (some ⟨w.heap.size + 1, q, none⟩))) ∧ (L 6 = true → v 6 = (.int .u8 (C : Int))) ∧ (L 7 = true → v 7 = (.int .i64 (C : Int))) ∧ (L 8 = true → v 8 = (.agg (bcells 64 (addK p (upP p (hmR p f g m (NN - 1) j) m) f (C : Int))))) ∧ (L 9 = true → v 9 = (.agg (bcells 64 (m)))) ∧ (L 10 = true → v 10 = (.agg (bcells 64 (hmR p f g m (NN - 1) (j + 1)))))) ?_ ?_ ?_
      · intro v hv0
        exact ⟨hb.drew, Nat.le_refl _, B0.drew, B1.drew, B2.drew, B3.drew, ⟨_, B4.drew⟩, (fun _ => B4.drew), (fun h => by cases h), (fun h => by cases h), (fun h => by cases h), (fun h => by cases h), (fun h => by cases h), (fun h => by cases h), (fun h => by cases h), (fun h => by cases h), (fun h => by cases h), (fun h => by cases h), (fun h => by cases h), (fun h => by cases h)⟩
      · refine (.cons rfl ?_ (.cons rfl ?_ (.cons rfl ?_ (.cons rfl ?_ (.cons rfl ?_ (.cons rfl ?_ (.cons rfl ?_ (.cons rfl ?_ (.cons rfl ?_ (.cons rfl ?_ (.cons rfl ?_ (.cons rfl ?_ (.nil _)))))))))))))
        · intro L v W6 hd hn ⟨hB, hz, s0, s1, s2, s3, x4, q4, n4, h0, h1, h2, h3, h4, h5, h6, h7, h8, h9, h10⟩ K hK
          go_wp2_with fail
          exact hK _ (.int .i64 (p : Int)) _ (by simp only [Act.put, List.setIfInBounds_toArray, List.set_cons_zero, List.set_cons_succ ]) ⟨hB, hz, s0, s1, s2, s3, x4, q4, n4, (fun _ => rfl), h1, h2, h3, h4, h5, h6, h7, h8, h9, h10⟩
        · intro L v W6 hd hn ⟨hB, hz, s0, s1, s2, s3, x4, q4, n4, h0, h1, h2, h3, h4, h5, h6, h7, h8, h9, h10⟩ K hK
          go_wp2_with fail
          exact hK _ (.int .i64 (p : Int)) _ (by simp only [Act.put, List.setIfInBounds_toArray, List.set_cons_zero, List.set_cons_succ ]) ⟨hB, hz, s0, s1, s2, s3, x4, q4, n4, h0, (fun _ => rfl), h2, h3, h4, h5, h6, h7, h8, h9, h10⟩
        · intro L v W6 hd hn ⟨hB, hz, s0, s1, s2, s3, x4, q4, n4, h0, h1, h2, h3, h4, h5, h6, h7, h8, h9, h10⟩ K hK
          have s4 := q4 (by
            cases hL : L 11 with
            | false => rfl
            | true => exact absurd rfl (hn 11 _ rfl hL ⟨2, .phase⟩ (by simp) rfl))
          refine wp_load_any 23 _ rfl _ rfl 64 23 _ s4 _ Try.underlying23 rfl Try.size23 ?_
          exact hK _ _ _ rfl ⟨hB, hz, s0, s1, s2, s3, x4, q4, n4, h0, h1, (fun _ => rfl), h3, h4, h5, h6, h7, h8, h9, h10⟩
        · intro L v W6 hd hn ⟨hB, hz, s0, s1, s2, s3, x4, q4, n4, h0, h1, h2, h3, h4, h5, h6, h7, h8, h9, h10⟩ K hK
          refine wp_load_any 23 _ rfl _ rfl 64 23 _ s0 _ Try.underlying23 rfl Try.size23 ?_
          exact hK _ _ _ rfl ⟨hB, hz, s0, s1, s2, s3, x4, q4, n4, h0, h1, h2, (fun _ => rfl), h4, h5, h6, h7, h8, h9, h10⟩
        · intro L v W6 hd hn ⟨hB, hz, s0, s1, s2, s3, x4, q4, n4, h0, h1, h2, h3, h4, h5, h6, h7, h8, h9, h10⟩ K hK
          go_wp2_with fail
          exact hK _ (.int .i64 (q : Int)) _ (by simp only [Act.put, List.setIfInBounds_toArray, List.set_cons_zero, List.set_cons_succ ]) ⟨hB, hz, s0, s1, s2, s3, x4, q4, n4, h0, h1, h2, h3, (fun _ => rfl), h5, h6, h7, h8, h9, h10⟩
        · intro L v W6 hd hn ⟨hB, hz, s0, s1, s2, s3, x4, q4, n4, h0, h1, h2, h3, h4, h5, h6, h7, h8, h9, h10⟩ K hK
          have e4 := h4 (hd ⟨4, .data⟩ (by simp) rfl)
          go_wp2_with fail
          exact hK _ (.pointer (some ⟨w.heap.size + 1, q, none⟩)) _ (by simp only [Act.put, List.setIfInBounds_toArray, List.set_cons_zero, List.set_cons_succ, e4]) ⟨hB, hz, s0, s1, s2, s3, x4, q4, n4, h0, h1, h2, h3, h4, (fun _ => rfl), h6, h7, h8, h9, h10⟩
        · intro L v W6 hd hn ⟨hB, hz, s0, s1, s2, s3, x4, q4, n4, h0, h1, h2, h3, h4, h5, h6, h7, h8, h9, h10⟩ K hK
          have e5 := h5 (hd ⟨5, .data⟩ (by simp) rfl)
          have cc := s1.cell (i := q) hq6
          rw [← HC.out] at cc
          go_wp2_with fail
          exact hK _ (.int .u8 (C : Int)) _ (by simp only [Act.put, List.setIfInBounds_toArray, List.set_cons_zero, List.set_cons_succ, e5]) ⟨hB, hz, s0, s1, s2, s3, x4, q4, n4, h0, h1, h2, h3, h4, h5, (fun _ => rfl), h7, h8, h9, h10⟩
        · intro L v W6 hd hn ⟨hB, hz, s0, s1, s2, s3, x4, q4, n4, h0, h1, h2, h3, h4, h5, h6, h7, h8, h9, h10⟩ K hK
          have e6 := h6 (hd ⟨6, .data⟩ (by simp) rfl)
          go_wp2_with fail
          exact hK _ (.int .i64 (C : Int)) _ (by simp only [Act.put, List.setIfInBounds_toArray, List.set_cons_zero, List.set_cons_succ, e6]) ⟨hB, hz, s0, s1, s2, s3, x4, q4, n4, h0, h1, h2, h3, h4, h5, h6, (fun _ => rfl), h8, h9, h10⟩
        · intro L v W6 hd hn ⟨hB, hz, s0, s1, s2, s3, x4, q4, n4, h0, h1, h2, h3, h4, h5, h6, h7, h8, h9, h10⟩ K hK
          have e1 := h1 (hd ⟨1, .data⟩ (by simp) rfl)
          have e2 := h2 (hd ⟨2, .data⟩ (by simp) rfl)
          have e3 := h3 (hd ⟨3, .data⟩ (by simp) rfl)
          have e7 := h7 (hd ⟨7, .data⟩ (by simp) rfl)
          go_wp2_with (go_at_call 107; refine (HA.out _).mono ?_; rintro e wy ⟨rfl, hy⟩)
          exact hK _ (.agg (bcells 64 (addK p (upP p (hmR p f g m (NN - 1) j) m) f (C : Int)))) _ (by simp only [Act.put, List.setIfInBounds_toArray, List.set_cons_zero, List.set_cons_succ, e1, e2, e3, e7]) ⟨hB.trans (hy.mono hB.size), (Nat.le_trans hz hy.size), (s0).below hy (s0).lt, (s1).below hy (s1).lt, (s2).below hy (s2).lt, (s3).below hy (s3).lt, (let ⟨g, h⟩ := x4; ⟨g, (h).below hy (h).lt⟩), (fun h => (q4 h).below hy (q4 h).lt), (fun h => (n4 h).below hy (n4 h).lt), h0, h1, h2, h3, h4, h5, h6, h7, (fun _ => rfl), h9, h10⟩
        · intro L v W6 hd hn ⟨hB, hz, s0, s1, s2, s3, x4, q4, n4, h0, h1, h2, h3, h4, h5, h6, h7, h8, h9, h10⟩ K hK
          refine wp_load_any 23 _ rfl _ rfl 64 23 _ s2 _ Try.underlying23 rfl Try.size23 ?_
          exact hK _ _ _ rfl ⟨hB, hz, s0, s1, s2, s3, x4, q4, n4, h0, h1, h2, h3, h4, h5, h6, h7, h8, (fun _ => rfl), h10⟩
        · intro L v W6 hd hn ⟨hB, hz, s0, s1, s2, s3, x4, q4, n4, h0, h1, h2, h3, h4, h5, h6, h7, h8, h9, h10⟩ K hK
          have e0 := h0 (hd ⟨0, .data⟩ (by simp) rfl)
          have e8 := h8 (hd ⟨8, .data⟩ (by simp) rfl)
          have e9 := h9 (hd ⟨9, .data⟩ (by simp) rfl)
          go_wp2_with (go_at_call 115; refine (HM2.out _).mono ?_; rintro e wy ⟨rfl, hy⟩)
          exact hK _ (.agg (bcells 64 (hmR p f g m (NN - 1) (j + 1)))) _ (by simp only [Act.put, List.setIfInBounds_toArray, List.set_cons_zero, List.set_cons_succ, e0, e8, e9]) ⟨hB.trans (hy.mono hB.size), (Nat.le_trans hz hy.size), (s0).below hy (s0).lt, (s1).below hy (s1).lt, (s2).below hy (s2).lt, (s3).below hy (s3).lt, (let ⟨g, h⟩ := x4; ⟨g, (h).below hy (h).lt⟩), (fun h => (q4 h).below hy (q4 h).lt), (fun h => (n4 h).below hy (n4 h).lt), h0, h1, h2, h3, h4, h5, h6, h7, h8, h9, (fun _ => rfl)⟩
        · intro L v W6 hd hn ⟨hB, hz, s0, s1, s2, s3, x4, q4, n4, h0, h1, h2, h3, h4, h5, h6, h7, h8, h9, h10⟩ K hK
          have e10 := h10 (hd ⟨10, .data⟩ (by simp) rfl)
          obtain ⟨gz, hk⟩ := x4
          refine wp_store_blk 23 _ _ rfl _ 64 (hmR p f g m (NN - 1) (j + 1)) rfl e10 23 gz hk Try.size23 ?_
          exact hK _ undef _ rfl ⟨below_row hB (by omega) _, (by simpa [World.setRow] using hz), (s0).rowOther (by omega), (s1).rowOther (by omega), (s2).rowOther (by omega), (s3).rowOther (by omega), ⟨_, hk.row _⟩, (fun h => absurd h (by simp [setL])), (fun _ => hk.row _), h0, h1, h2, h3, h4, h5, h6, h7, h8, h9, h10⟩
      · intro L v W6 hL ⟨hB, hz, s0, s1, s2, s3, x4, q4, n4, h0, h1, h2, h3, h4, h5, h6, h7, h8, h9, h10⟩
        have r4 := n4 (hL 11 (by decide))
        have e0 := h0 (hL 0 (by decide))
        have e1 := h1 (hL 1 (by decide))
        have e2 := h2 (hL 2 (by decide))
        have e3 := h3 (hL 3 (by decide))
        have e4 := h4 (hL 4 (by decide))
        have e5 := h5 (hL 5 (by decide))
        have e6 := h6 (hL 6 (by decide))
        have e7 := h7 (hL 7 (by decide))
        have e8 := h8 (hL 8 (by decide))
        have e9 := h9 (hL 9 (by decide))
        have e10 := h10 (hL 10 (by decide))
        clear hL x4 q4 n4 h0 h1 h2 h3 h4 h5 h6 h7 h8 h9 h10
        simp only [Exit.then, e0, e1, e2, e3, e4, e5, e6, e7, e8, e9, e10]
        clear e0 e1 e2 e3 e4 e5 e6 e7 e8 e9 e10
        clear B0
        have B0 := s0
        clear s0
        clear B1
        have B1 := s1
        clear s1
        clear B2
        have B2 := s2
        clear s2
        clear B3
        have B3 := s3
        clear s3
        clear B4
        have B4 := r4
        clear r4
        clear hb
        have hb := hB
        clear hB
        clear hbase hz lt_B0 lt_B1 lt_B2 lt_B3 lt_B4
        go_wp2_with fail
        go_roundw
        case rel => exact ⟨q, j + 1, Lib.hid (by have := hqj.out; omega), rfl, hb, B0, B1, B2, B3, B4⟩
        case measure => simp [intOf] <;> omega
end Go.Proofs.Ytbjpkmbhbpcbgaa
