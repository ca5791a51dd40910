/-
  Walks: one polynomial in another.
-/
import Derived.Test.YtkaaffccklkafaaW18
import Derived.Test.YtkaaffccklkafaaLda
import Derived.Test.YtkaaffccklkafaaCm
namespace Go.Proofs.Ytkaaffccklkafaa
open Go.RowKit
set_option linter.unusedVariables false
set_option linter.unusedSimpArgs false
attribute [local irreducible] deg cmR
theorem built_c (c : Nat) : Try.prog.built 25 [(0, .int .u8 (c : Int))] = some (bcells 64 fun k => if k = 0 then c else 0) := by
  unfold bcells bl; kernel_rfl
theorem deg_mul_bounds (f g : Nat → Nat) : -63 ≤ deg f * deg g ∧ deg f * deg g ≤ 3969 := by
  obtain ⟨a1, a2⟩ := deg_bounds f
  obtain ⟨b1, b2⟩ := deg_bounds g
  by_cases h : 0 ≤ deg f
  · by_cases h2 : 0 ≤ deg g
    · have := Int.mul_nonneg h h2
      have h3 := Int.mul_le_mul a2 b2 h2 (by omega)
      omega
    · have e : deg g = -1 := by omega
      rw [e]; omega
  · have e : deg f = -1 := by omega
    rw [e]; omega
set_option maxRecDepth 100000 in
set_option maxHeartbeats 1600000 in
theorem impl_ComposePolys_any (p : Int) (f g : Nat → Nat) (hf : byte f) (hg : byte g) (w : World) :
    Calls Try.prog 75 #[.int .i64 p, .agg (bcells 64 f), .agg (bcells 64 g)] w fun e w' => e = .returned (.tuple #[.agg (bcells 64 (cmV p f g).1), .int .i64 (cmV p f g).2]) ∧ Below w.heap.size w w' := by
  go_enter Try.func75, Try.ntmps75
  go_upto_region 1 with (fail)
  rw [← zero64]
  obtain ⟨W1, hwo⟩ : ∃ v : World, v = (((w.alloc (.cells (bcells 64 (f)) 25)).alloc (.cells (bcells 64 (g)) 25)).alloc (.cells (bcells 64 fun _ => 0) 25)) := ⟨_, rfl⟩
  have B0 : Blk W1 (w.heap.size) 64 25 (f) := by subst hwo; have := (((Blk.new w 64 25 (f)).alloc (.cells (bcells 64 (g)) 25)).alloc (.cells (bcells 64 fun _ => 0) 25)); simpa using this
  have B1 : Blk W1 (w.heap.size + 1) 64 25 (g) := by subst hwo; have := ((Blk.new (w.alloc (.cells (bcells 64 (f)) 25)) 64 25 (g)).alloc (.cells (bcells 64 fun _ => 0) 25)); simpa using this
  have B2 : Blk W1 (w.heap.size + 1 + 1) 64 25 (fun _ => 0) := by subst hwo; have := (Blk.new ((w.alloc (.cells (bcells 64 (f)) 25)).alloc (.cells (bcells 64 (g)) 25)) 64 25 (fun _ => 0)); simpa using this
  have hb : Below w.heap.size w W1 := by subst hwo; exact ((((Below.refl _ _).alloc (Nat.le_refl _) _).alloc (by simp) _).alloc (by simp; omega) _)
  rw [← hwo]
  clear hwo
  go_upto_region 2 with (first | (refine wpList_load_any rfl 25 (.tmp 4) rfl _ rfl 64 25 _ B0 _ Try.underlying25 rfl Try.size25 ?_) | (refine wpList_load_any rfl 25 (.tmp 5) rfl _ rfl 64 25 _ B1 _ Try.underlying25 rfl Try.size25 ?_) | (refine wpList_build_polys rfl 57 _ [f, g] rfl 25 rfl Try.underlying57 Try.elem25 (by simp) (by simp) rfl ?_; intro wa hwa hps hba; clear hwa) | (go_at_call 142; refine (checkPolys_any p [f, g] (by simp [hf, hg]) _ _ hps (by simp)).mono ?_; rintro e W2 ⟨rfl, hbb⟩))
  have hBB : Below W1.heap.size W1 W2 := hba.trans (hbb.mono hba.size)
  replace B0 := B0.below hBB B0.lt
  replace B1 := B1.below hBB B1.lt
  replace B2 := B2.below hBB B2.lt
  replace hb := hb.trans (hBB.mono hb.size)
  clear hBB hba hbb hps
  rcases codeL_two p [f, g] with hc | hc
  · obtain ⟨n, hn, n2, n7⟩ := okP_nat (codeL_zero hc).1
    subst hn
    have lf := lt_of_code hc (f := f) (by simp)
    have lg := lt_of_code hc (f := g) (by simp)
    have hpr := prime_of hc
    obtain ⟨mb1, mb2⟩ := deg_mul_bounds f g
    obtain ⟨fb1, fb2⟩ := deg_bounds f
    obtain ⟨gb1, gb2⟩ := deg_bounds g
    by_cases hlim : deg f * deg g ≤ 63
    · have HV := Lib.hid (cmV_ok hc hlim)
      rw [hc]
      clear hc
      obtain ⟨nn, NN, hN1, hnn, hnn2⟩ : ∃ nn NN : Nat, deg f + 1 = (NN : Int) ∧ nn = (deg f).toNat ∧ NN = (deg f + 1).toNat := ⟨(deg f).toNat, (deg f + 1).toNat, by omega, rfl, rfl⟩
      have HV2 := Lib.hid (show cmV (n : Int) f g = (cmR n f g nn NN, 0) by rw [HV.out, hnn, hnn2])
      clear HV
      have hN6 : NN ≤ 64 := by omega
      have HD := Lib.hid (show deg f = (NN : Int) - 1 by omega)
      have HNN := Lib.hid (show nn + 1 = NN ∨ NN = 0 by omega)
      clear hN1 hnn hnn2
      go_upto_region 4 with (fail)
      have lt_B0 : (w.heap.size) < W2.heap.size := B0.lt
      have lt_B1 : (w.heap.size + 1) < W2.heap.size := B1.lt
      have lt_B2 : (w.heap.size + 1 + 1) < W2.heap.size := B2.lt
      have hbase : w.heap.size ≤ W2.heap.size := hb.size
      refine wp_region_steps0 Try.mixed (by kernel_rfl) (by kernel_rfl) (fun v => by (simp only [frL, Act.put, List.setIfInBounds_toArray, List.set_cons_zero, List.set_cons_succ, Nat.reduceAdd, Nat.zero_add]; exact rfl))
        (fun L v W3 => Below w.heap.size w W3 ∧ W2.heap.size ≤ W3.heap.size ∧ Blk W3 (w.heap.size) 64 25 (f) ∧ Blk W3 (w.heap.size + 1) 64 25 (g) ∧ Blk W3 (w.heap.size + 1 + 1) 64 25 (fun _ => 0) ∧ (L 0 = true → v 0 = (.agg (bcells 64 (f)))) ∧ (L 1 = true → v 1 = (.int .i64 (deg f))) ∧ (L 2 = true → v 2 = (.agg (bcells 64 (g)))) ∧ (L 3 = true → v 3 = (.int .i64 (deg g))) ∧ (L 4 = true → v 4 = (.int .i64 (deg f * deg g))) ∧ (L 5 = true → v 5 = (.bool (decide (63 < deg f * deg g))))) ?_ ?_ ?_
      · intro v hv0
        exact ⟨hb.drew, Nat.le_refl _, B0.drew, B1.drew, B2.drew, (fun h => by cases h), (fun h => by cases h), (fun h => by cases h), (fun h => by cases h), (fun h => by cases h), (fun h => by cases h)⟩
      · refine (.cons rfl ?_ (.cons rfl ?_ (.cons rfl ?_ (.cons rfl ?_ (.cons rfl ?_ (.cons rfl ?_ (.nil _)))))))
        · intro L v W3 hd hn ⟨hB, hz, s0, s1, s2, h0, h1, h2, h3, h4, h5⟩ K hK
          refine wp_load_any 25 _ rfl _ rfl 64 25 _ s0 _ Try.underlying25 rfl Try.size25 ?_
          exact hK _ _ _ rfl ⟨hB, hz, s0, s1, s2, (fun _ => rfl), h1, h2, h3, h4, h5⟩
        · intro L v W3 hd hn ⟨hB, hz, s0, s1, s2, h0, h1, h2, h3, h4, h5⟩ K hK
          have e0 := h0 (hd ⟨0, .data⟩ (by simp) rfl)
          go_wp2_with (go_at_call 143; refine (degree_any f _).mono ?_; rintro e wy ⟨rfl, hy⟩)
          exact hK _ (.int .i64 (deg f)) _ (by simp only [Act.put, List.setIfInBounds_toArray, List.set_cons_zero, List.set_cons_succ, e0]) ⟨hB.trans (hy.mono hB.size), (Nat.le_trans hz hy.size), (s0).below hy (s0).lt, (s1).below hy (s1).lt, (s2).below hy (s2).lt, h0, (fun _ => rfl), h2, h3, h4, h5⟩
        · intro L v W3 hd hn ⟨hB, hz, s0, s1, s2, h0, h1, h2, h3, h4, h5⟩ K hK
          refine wp_load_any 25 _ rfl _ rfl 64 25 _ s1 _ Try.underlying25 rfl Try.size25 ?_
          exact hK _ _ _ rfl ⟨hB, hz, s0, s1, s2, h0, h1, (fun _ => rfl), h3, h4, h5⟩
        · intro L v W3 hd hn ⟨hB, hz, s0, s1, s2, h0, h1, h2, h3, h4, h5⟩ K hK
          have e2 := h2 (hd ⟨2, .data⟩ (by simp) rfl)
          go_wp2_with (go_at_call 143; refine (degree_any g _).mono ?_; rintro e wy ⟨rfl, hy⟩)
          exact hK _ (.int .i64 (deg g)) _ (by simp only [Act.put, List.setIfInBounds_toArray, List.set_cons_zero, List.set_cons_succ, e2]) ⟨hB.trans (hy.mono hB.size), (Nat.le_trans hz hy.size), (s0).below hy (s0).lt, (s1).below hy (s1).lt, (s2).below hy (s2).lt, h0, h1, h2, (fun _ => rfl), h4, h5⟩
        · intro L v W3 hd hn ⟨hB, hz, s0, s1, s2, h0, h1, h2, h3, h4, h5⟩ K hK
          have e1 := h1 (hd ⟨1, .data⟩ (by simp) rfl)
          have e3 := h3 (hd ⟨3, .data⟩ (by simp) rfl)
          go_wp2_with fail
          exact hK _ (.int .i64 (deg f * deg g)) _ (by simp only [Act.put, List.setIfInBounds_toArray, List.set_cons_zero, List.set_cons_succ, e1, e3]) ⟨hB, hz, s0, s1, s2, h0, h1, h2, h3, (fun _ => rfl), h5⟩
        · intro L v W3 hd hn ⟨hB, hz, s0, s1, s2, h0, h1, h2, h3, h4, h5⟩ K hK
          have e4 := h4 (hd ⟨4, .data⟩ (by simp) rfl)
          go_wp2_with fail
          exact hK _ (.bool (decide (63 < deg f * deg g))) _ (by simp only [Act.put, List.setIfInBounds_toArray, List.set_cons_zero, List.set_cons_succ, e4]) ⟨hB, hz, s0, s1, s2, h0, h1, h2, h3, h4, (fun _ => rfl)⟩
      · intro L v W3 hL ⟨hB, hz, s0, s1, s2, h0, h1, h2, h3, h4, h5⟩
        have e0 := h0 (hL 0 (by decide))
        have e1 := h1 (hL 1 (by decide))
        have e2 := h2 (hL 2 (by decide))
        have e3 := h3 (hL 3 (by decide))
        have e4 := h4 (hL 4 (by decide))
        have e5 := h5 (hL 5 (by decide))
        clear hL h0 h1 h2 h3 h4 h5
        simp only [Exit.then, e0, e1, e2, e3, e4, e5]
        clear e0 e1 e2 e3 e4 e5
        clear B0
        have B0 := s0
        clear s0
        clear B1
        have B1 := s1
        clear s1
        clear B2
        have B2 := s2
        clear s2
        clear hb
        have hb := hB
        clear hB
        clear hbase hz lt_B0 lt_B1 lt_B2
        rw [decide_eq_false (show ¬ 63 < deg f * deg g by omega)]
        go_upto_region 7 with (first | rw [← zero64])
        have lt_B0 := B0.lt
        have lt_B1 := B1.lt
        have lt_B2 := B2.lt
        have lhb := hb.size
        have qB0 : Blk (W3.alloc (.cells (bcells 64 fun _ => 0) 25)) (w.heap.size) 64 25 (f) := (B0.alloc (.cells (bcells 64 fun _ => 0) 25))
        have qB1 : Blk (W3.alloc (.cells (bcells 64 fun _ => 0) 25)) (w.heap.size + 1) 64 25 (g) := (B1.alloc (.cells (bcells 64 fun _ => 0) 25))
        have qB2 : Blk (W3.alloc (.cells (bcells 64 fun _ => 0) 25)) (w.heap.size + 1 + 1) 64 25 (fun _ => 0) := (B2.alloc (.cells (bcells 64 fun _ => 0) 25))
        have qB3 : Blk (W3.alloc (.cells (bcells 64 fun _ => 0) 25)) (W3.heap.size) 64 25 (fun _ => 0) := (Blk.new W3 64 25 (fun _ => 0))
        have qhb : Below w.heap.size w (W3.alloc (.cells (bcells 64 fun _ => 0) 25)) := (hb.alloc (by have := hb.size; simp; omega) (.cells (bcells 64 fun _ => 0) 25))
        obtain ⟨W4, hwo⟩ : ∃ v : World, v = (W3.alloc (.cells (bcells 64 fun _ => 0) 25)) := ⟨_, rfl⟩
        rw [← hwo] at qB0 qB1 qB2 qB3 qhb ⊢
        clear hwo
        clear B0 B1 B2 hb
        have B0 := qB0
        have B1 := qB1
        have B2 := qB2
        have B3 := qB3
        have hb := qhb
        clear qB0 qB1 qB2 qB3 qhb
        obtain ⟨N1, hNN⟩ : ∃ n : Nat, n = W3.heap.size := ⟨_, rfl⟩
        rw [← hNN] at lt_B0 lt_B1 lt_B2 lhb B3 ⊢
        clear hNN
        have zN1_0 := lt_B0
        have zN1_1 := lt_B1
        have zN1_2 := lt_B2
        have zN1 := lhb
        clear lt_B0 lt_B1 lt_B2 lhb
        try simp only [Act.put, List.setIfInBounds_toArray, List.set_cons_zero, List.set_cons_succ]
        go_upto_region 99 with (first | (refine wpList_load_any rfl 25 (.tmp 4) rfl _ rfl 64 25 _ (B0) _ Try.underlying25 rfl Try.size25 ?_) | (go_at_call 143; refine (degree_any f _).mono ?_; rintro e W5 ⟨rfl, hW5⟩; replace B0 := B0.below hW5 B0.lt; replace B1 := B1.below hW5 B1.lt; replace B2 := B2.below hW5 B2.lt; replace B3 := B3.below hW5 B3.lt; replace hb := (hb).trans (hW5.mono (hb).size)))
        clear hlim mb1 mb2
        rw [HD.out]
        go_loopw [10] (fun i wr => ∃ q j : Nat, Hid (q + j = NN) ∧ i = .int .i64 ((q : Int) - 1) ∧ Below w.heap.size w wr ∧ Blk wr (w.heap.size) 64 25 f ∧ Blk wr (w.heap.size + 1) 64 25 g ∧ Blk wr (w.heap.size + 1 + 1) 64 25 (fun _ => 0) ∧ Blk wr (N1) 64 25 (cmR n f g nn j)) (fun i _ => (intOf i + 1).toNat)
        case atStart => exact ⟨NN, 0, Lib.hid (by omega), rfl, hb, B0, B1, B2, by rw [cmR_z]; exact B3⟩
        case round =>
          clear hb B0 B1 B2 B3
          obtain ⟨q, j, hqj, rfl, hb, B0, B1, B2, B3⟩ := hrel
          by_cases hq0 : q = 0
          · subst hq0
            have ej : j = NN := by have := hqj.out; omega
            rw [ej] at B3
            clear hqj ej
            go_upto_region 11 with (fail)
            have lt_B0 := B0.lt
            have lt_B1 := B1.lt
            have lt_B2 := B2.lt
            have lt_B3 := B3.lt
            go_wp2_with (first | rw [← zero64] | (refine wpList_load_any rfl 25 (.tmp 9) rfl _ rfl 64 25 _ (B3) _ Try.underlying25 rfl Try.size25 ?_) | (refine wpList_store_blk rfl 25 (.tmp 6) (.tmp 43) rfl _ 64 (cmR n f g nn NN) rfl rfl 25 _ (B2) Try.size25 ?_))
            have qB0 : Blk (wr.setRow (w.heap.size + 1 + 1) (bcells 64 (cmR n f g nn NN))) (w.heap.size) 64 25 (f) := (B0.rowOther (by omega))
            have qB1 : Blk (wr.setRow (w.heap.size + 1 + 1) (bcells 64 (cmR n f g nn NN))) (w.heap.size + 1) 64 25 (g) := (B1.rowOther (by omega))
            have qB2 : Blk (wr.setRow (w.heap.size + 1 + 1) (bcells 64 (cmR n f g nn NN))) (w.heap.size + 1 + 1) 64 25 (cmR n f g nn NN) := (B2.row (cmR n f g nn NN))
            have qB3 : Blk (wr.setRow (w.heap.size + 1 + 1) (bcells 64 (cmR n f g nn NN))) (N1) 64 25 (cmR n f g nn NN) := (B3.rowOther (by omega))
            have qhb : Below w.heap.size w (wr.setRow (w.heap.size + 1 + 1) (bcells 64 (cmR n f g nn NN))) := (below_row hb (by omega) _)
            obtain ⟨W6, hwo⟩ : ∃ v : World, v = (wr.setRow (w.heap.size + 1 + 1) (bcells 64 (cmR n f g nn NN))) := ⟨_, rfl⟩
            rw [← hwo] at qB0 qB1 qB2 qB3 qhb ⊢
            clear hwo
            clear B0 B1 B2 B3 hb
            have B0 := qB0
            have B1 := qB1
            have B2 := qB2
            have B3 := qB3
            have hb := qhb
            clear qB0 qB1 qB2 qB3 qhb
            try simp only [Act.put, List.setIfInBounds_toArray, List.set_cons_zero, List.set_cons_succ]
            refine bodyPost_ret (results_bt rfl _ _ _ 64 25 5 _ rfl B2 Try.underlying25 Try.size25) rfl ⟨by first | (rw [HV2.out]; rfl) | rw [HV2.out], hb⟩
          · obtain ⟨q, rfl⟩ : ∃ t, q = t + 1 := ⟨q - 1, by omega⟩
            rw [show ((q + 1 : Nat) : Int) - 1 = (q : Int) by omega]
            have hq6 : q < 64 := by have := hqj.out; omega
            have HS := Lib.hid (fun W => show Calls Try.prog 149 #[.int .i64 (n : Int), .agg (bcells 64 (prd n (cmR n f g nn j) g)), .agg (bcells 64 fun k => if k = 0 then f q else 0)] W fun e w' => e = .returned (.agg (bcells 64 (cmR n f g nn (j + 1)))) ∧ Below W.heap.size W w' by
            have := sum_any n (prd n (cmR n f g nn j) g) (fun k => if k = 0 then f q else 0) W n2 n7 (fun i _ => prd_lt (by omega) i) (fun i _ => by show (if i = 0 then f q else 0) < n; split; exact lf q hq6; omega)
            rwa [show (fun i => (prd n (cmR n f g nn j) g i + (if i = 0 then f q else 0)) % n) = cmR n f g nn (j + 1) by rw [cmR_s, show nn - j = q by have := hqj.out; have := HNN.out; omega]] at this)
            have HP := Lib.hid (fun W => product_any n (cmR n f g nn j) g W n2 n7 (fun i _ => cmR_lt (by omega) j i) lg)
            go_upto_region 10 with (fail)
            have lt_B0 : (w.heap.size) < wr.heap.size := B0.lt
            have lt_B1 : (w.heap.size + 1) < wr.heap.size := B1.lt
            have lt_B2 : (w.heap.size + 1 + 1) < wr.heap.size := B2.lt
            have lt_B3 : (N1) < wr.heap.size := B3.lt
            have hbase : w.heap.size ≤ wr.heap.size := hb.size
            refine wp_region_steps0 Try.mixed (by kernel_rfl) (by kernel_rfl) (fun v => by (simp only [frL, Act.put, List.setIfInBounds_toArray, List.set_cons_zero, List.set_cons_succ, Nat.reduceAdd, Nat.zero_add]; exact rfl))
              (fun L v W6 => Below w.heap.size w W6 ∧ wr.heap.size ≤ W6.heap.size ∧ Blk W6 (w.heap.size) 64 25 (f) ∧ Blk W6 (w.heap.size + 1) 64 25 (g) ∧ Blk W6 (w.heap.size + 1 + 1) 64 25 (fun _ => 0) ∧ (∃ g, Blk W6 (N1) 64 25 (g)) ∧ (L 10 = false → Blk W6 (N1) 64 25 (cmR n f g nn j)) ∧ (L 10 = true → Blk W6 (N1) 64 25 (cmR n f g nn (j + 1))) ∧ (L 0 = true → v 0 = (.int .i64 (n : Int))) ∧ (L 1 = true → v 1 = (.int .i64 (n : Int))) ∧ (L 2 = true → v 2 = (.agg (bcells 64 (cmR n f g nn j)))) ∧ (L 3 = true → v 3 = (.agg (bcells 64 (g)))) ∧ (L 4 = true → v 4 = (.agg (bcells 64 (prd n (cmR n f g nn j) g)))) ∧ (L 5 = true → v 5 = (.int .i64 (q : Int))) ∧ (L 6 = true → v 6 = (.pointer (some ⟨w.heap.size, q, none⟩))) ∧ (L 7 = true → v 7 = (.int .u8 (f q : Int))) ∧ (L 8 = true → v 8 = (.agg (bcells 64 (fun k => if k = 0 then f q else 0)))) ∧ (L 9 = true → v 9 = (.agg (bcells 64 (cmR n f g nn (j + 1)))))) ?_ ?_ ?_
            · intro v hv0
              exact ⟨hb.drew, Nat.le_refl _, B0.drew, B1.drew, B2.drew, ⟨_, B3.drew⟩, (fun _ => B3.drew), (fun h => by cases h), (fun h => by cases h), (fun h => by cases h), (fun h => by cases h), (fun h => by cases h), (fun h => by cases h), (fun h => by cases h), (fun h => by cases h), (fun h => by cases h), (fun h => by cases h), (fun h => by cases h)⟩
            · refine (.cons rfl ?_ (.cons rfl ?_ (.cons rfl ?_ (.cons rfl ?_ (.cons rfl ?_ (.cons rfl ?_ (.cons rfl ?_ (.cons rfl ?_ (.cons rfl ?_ (.cons rfl ?_ (.cons rfl ?_ (.nil _))))))))))))
              · intro L v W6 hd hn ⟨hB, hz, s0, s1, s2, x3, q3, n3, h0, h1, h2, h3, h4, h5, h6, h7, h8, h9⟩ K hK
                go_wp2_with fail
                exact hK _ (.int .i64 (n : Int)) _ (by simp only [Act.put, List.setIfInBounds_toArray, List.set_cons_zero, List.set_cons_succ ]) ⟨hB, hz, s0, s1, s2, x3, q3, n3, (fun _ => rfl), h1, h2, h3, h4, h5, h6, h7, h8, h9⟩
              · intro L v W6 hd hn ⟨hB, hz, s0, s1, s2, x3, q3, n3, h0, h1, h2, h3, h4, h5, h6, h7, h8, h9⟩ K hK
                go_wp2_with fail
                exact hK _ (.int .i64 (n : Int)) _ (by simp only [Act.put, List.setIfInBounds_toArray, List.set_cons_zero, List.set_cons_succ ]) ⟨hB, hz, s0, s1, s2, x3, q3, n3, h0, (fun _ => rfl), h2, h3, h4, h5, h6, h7, h8, h9⟩
              · intro L v W6 hd hn ⟨hB, hz, s0, s1, s2, x3, q3, n3, h0, h1, h2, h3, h4, h5, h6, h7, h8, h9⟩ K hK
                have s3 := q3 (by
                  cases hL : L 10 with
                  | false => rfl
                  | true => exact absurd rfl (hn 10 _ rfl hL ⟨2, .phase⟩ (by simp) rfl))
                refine wp_load_any 25 _ rfl _ rfl 64 25 _ s3 _ Try.underlying25 rfl Try.size25 ?_
                exact hK _ _ _ rfl ⟨hB, hz, s0, s1, s2, x3, q3, n3, h0, h1, (fun _ => rfl), h3, h4, h5, h6, h7, h8, h9⟩
              · intro L v W6 hd hn ⟨hB, hz, s0, s1, s2, x3, q3, n3, h0, h1, h2, h3, h4, h5, h6, h7, h8, h9⟩ K hK
                refine wp_load_any 25 _ rfl _ rfl 64 25 _ s1 _ Try.underlying25 rfl Try.size25 ?_
                exact hK _ _ _ rfl ⟨hB, hz, s0, s1, s2, x3, q3, n3, h0, h1, h2, (fun _ => rfl), h4, h5, h6, h7, h8, h9⟩
              · intro L v W6 hd hn ⟨hB, hz, s0, s1, s2, x3, q3, n3, h0, h1, h2, h3, h4, h5, h6, h7, h8, h9⟩ K hK
                have e1 := h1 (hd ⟨1, .data⟩ (by simp) rfl)
                have e2 := h2 (hd ⟨2, .data⟩ (by simp) rfl)
                have e3 := h3 (hd ⟨3, .data⟩ (by simp) rfl)
                go_wp2_with (go_at_call 144; refine (HP.out _).mono ?_; rintro e wy ⟨rfl, hy⟩)
                exact hK _ (.agg (bcells 64 (prd n (cmR n f g nn j) g))) _ (by simp only [Act.put, List.setIfInBounds_toArray, List.set_cons_zero, List.set_cons_succ, e1, e2, e3]) ⟨hB.trans (hy.mono hB.size), (Nat.le_trans hz hy.size), (s0).below hy (s0).lt, (s1).below hy (s1).lt, (s2).below hy (s2).lt, (let ⟨g, h⟩ := x3; ⟨g, (h).below hy (h).lt⟩), (fun h => (q3 h).below hy (q3 h).lt), (fun h => (n3 h).below hy (n3 h).lt), h0, h1, h2, h3, (fun _ => rfl), h5, h6, h7, h8, h9⟩
              · intro L v W6 hd hn ⟨hB, hz, s0, s1, s2, x3, q3, n3, h0, h1, h2, h3, h4, h5, h6, h7, h8, h9⟩ K hK
                go_wp2_with fail
                exact hK _ (.int .i64 (q : Int)) _ (by simp only [Act.put, List.setIfInBounds_toArray, List.set_cons_zero, List.set_cons_succ ]) ⟨hB, hz, s0, s1, s2, x3, q3, n3, h0, h1, h2, h3, h4, (fun _ => rfl), h6, h7, h8, h9⟩
              · intro L v W6 hd hn ⟨hB, hz, s0, s1, s2, x3, q3, n3, h0, h1, h2, h3, h4, h5, h6, h7, h8, h9⟩ K hK
                have e5 := h5 (hd ⟨5, .data⟩ (by simp) rfl)
                go_wp2_with fail
                exact hK _ (.pointer (some ⟨w.heap.size, q, none⟩)) _ (by simp only [Act.put, List.setIfInBounds_toArray, List.set_cons_zero, List.set_cons_succ, e5]) ⟨hB, hz, s0, s1, s2, x3, q3, n3, h0, h1, h2, h3, h4, h5, (fun _ => rfl), h7, h8, h9⟩
              · intro L v W6 hd hn ⟨hB, hz, s0, s1, s2, x3, q3, n3, h0, h1, h2, h3, h4, h5, h6, h7, h8, h9⟩ K hK
                have e6 := h6 (hd ⟨6, .data⟩ (by simp) rfl)
                have cc := s0.cell (i := q) hq6
                go_wp2_with fail
                exact hK _ (.int .u8 (f q : Int)) _ (by simp only [Act.put, List.setIfInBounds_toArray, List.set_cons_zero, List.set_cons_succ, e6]) ⟨hB, hz, s0, s1, s2, x3, q3, n3, h0, h1, h2, h3, h4, h5, h6, (fun _ => rfl), h8, h9⟩
              · intro L v W6 hd hn ⟨hB, hz, s0, s1, s2, x3, q3, n3, h0, h1, h2, h3, h4, h5, h6, h7, h8, h9⟩ K hK
                have e7 := h7 (hd ⟨7, .data⟩ (by simp) rfl)
                refine wp_build_of 25 _ rfl (bcells 64 fun k => if k = 0 then f q else 0) (by rw [Array.toList_map]; show Try.prog.built 25 [(0, v 7)] = some (bcells 64 fun k => if k = 0 then f q else 0); rw [e7]; exact built_c (f q)) ?_
                exact hK _ _ _ rfl ⟨hB, hz, s0, s1, s2, x3, q3, n3, h0, h1, h2, h3, h4, h5, h6, h7, (fun _ => rfl), h9⟩
              · intro L v W6 hd hn ⟨hB, hz, s0, s1, s2, x3, q3, n3, h0, h1, h2, h3, h4, h5, h6, h7, h8, h9⟩ K hK
                have e0 := h0 (hd ⟨0, .data⟩ (by simp) rfl)
                have e4 := h4 (hd ⟨4, .data⟩ (by simp) rfl)
                have e8 := h8 (hd ⟨8, .data⟩ (by simp) rfl)
                go_wp2_with (go_at_call 149; refine (HS.out _).mono ?_; rintro e wy ⟨rfl, hy⟩)
                exact hK _ (.agg (bcells 64 (cmR n f g nn (j + 1)))) _ (by simp only [Act.put, List.setIfInBounds_toArray, List.set_cons_zero, List.set_cons_succ, e0, e4, e8]) ⟨hB.trans (hy.mono hB.size), (Nat.le_trans hz hy.size), (s0).below hy (s0).lt, (s1).below hy (s1).lt, (s2).below hy (s2).lt, (let ⟨g, h⟩ := x3; ⟨g, (h).below hy (h).lt⟩), (fun h => (q3 h).below hy (q3 h).lt), (fun h => (n3 h).below hy (n3 h).lt), h0, h1, h2, h3, h4, h5, h6, h7, h8, (fun _ => rfl)⟩
              · intro L v W6 hd hn ⟨hB, hz, s0, s1, s2, x3, q3, n3, h0, h1, h2, h3, h4, h5, h6, h7, h8, h9⟩ K hK
                have e9 := h9 (hd ⟨9, .data⟩ (by simp) rfl)
                obtain ⟨gz, hk⟩ := x3
                refine wp_store_blk 25 _ _ rfl _ 64 (cmR n f g nn (j + 1)) rfl e9 25 gz hk Try.size25 ?_
                exact hK _ undef _ rfl ⟨below_row hB (by omega) _, (by simpa [World.setRow] using hz), (s0).rowOther (by omega), (s1).rowOther (by omega), (s2).rowOther (by omega), ⟨_, hk.row _⟩, (fun h => absurd h (by simp [setL])), (fun _ => hk.row _), h0, h1, h2, h3, h4, h5, h6, h7, h8, h9⟩
            · intro L v W6 hL ⟨hB, hz, s0, s1, s2, x3, q3, n3, h0, h1, h2, h3, h4, h5, h6, h7, h8, h9⟩
              have r3 := n3 (hL 10 (by decide))
              have e0 := h0 (hL 0 (by decide))
              have e1 := h1 (hL 1 (by decide))
              have e2 := h2 (hL 2 (by decide))
              have e3 := h3 (hL 3 (by decide))
              have e4 := h4 (hL 4 (by decide))
              have e5 := h5 (hL 5 (by decide))
              have e6 := h6 (hL 6 (by decide))
              have e7 := h7 (hL 7 (by decide))
              have e8 := h8 (hL 8 (by decide))
              have e9 := h9 (hL 9 (by decide))
              clear hL x3 q3 n3 h0 h1 h2 h3 h4 h5 h6 h7 h8 h9
              simp only [Exit.then, e0, e1, e2, e3, e4, e5, e6, e7, e8, e9]
              clear e0 e1 e2 e3 e4 e5 e6 e7 e8 e9
              clear B0
              have B0 := s0
              clear s0
              clear B1
              have B1 := s1
              clear s1
              clear B2
              have B2 := s2
              clear s2
              clear B3
              have B3 := r3
              clear r3
              clear hb
              have hb := hB
              clear hB
              clear hbase hz lt_B0 lt_B1 lt_B2 lt_B3
              go_wp2_with fail
              go_roundw
              case rel => exact ⟨q, j + 1, Lib.hid (by have := hqj.out; omega), rfl, hb, B0, B1, B2, B3⟩
              case measure => simp [intOf] <;> omega
    · have HV := Lib.hid (cmV_lim hc hlim)
      have hlim2 : 63 < deg f * deg g := by omega
      rw [hc]
      clear hc
      go_upto_region 4 with (fail)
      have lt_B0 : (w.heap.size) < W2.heap.size := B0.lt
      have lt_B1 : (w.heap.size + 1) < W2.heap.size := B1.lt
      have lt_B2 : (w.heap.size + 1 + 1) < W2.heap.size := B2.lt
      have hbase : w.heap.size ≤ W2.heap.size := hb.size
      refine wp_region_steps0 Try.mixed (by kernel_rfl) (by kernel_rfl) (fun v => by (simp only [frL, Act.put, List.setIfInBounds_toArray, List.set_cons_zero, List.set_cons_succ, Nat.reduceAdd, Nat.zero_add]; exact rfl))
        (fun L v W3 => Below w.heap.size w W3 ∧ W2.heap.size ≤ W3.heap.size ∧ Blk W3 (w.heap.size) 64 25 (f) ∧ Blk W3 (w.heap.size + 1) 64 25 (g) ∧ Blk W3 (w.heap.size + 1 + 1) 64 25 (fun _ => 0) ∧ (L 0 = true → v 0 = (.agg (bcells 64 (f)))) ∧ (L 1 = true → v 1 = (.int .i64 (deg f))) ∧ (L 2 = true → v 2 = (.agg (bcells 64 (g)))) ∧ (L 3 = true → v 3 = (.int .i64 (deg g))) ∧ (L 4 = true → v 4 = (.int .i64 (deg f * deg g))) ∧ (L 5 = true → v 5 = (.bool true))) ?_ ?_ ?_
      · intro v hv0
        exact ⟨hb.drew, Nat.le_refl _, B0.drew, B1.drew, B2.drew, (fun h => by cases h), (fun h => by cases h), (fun h => by cases h), (fun h => by cases h), (fun h => by cases h), (fun h => by cases h)⟩
      · refine (.cons rfl ?_ (.cons rfl ?_ (.cons rfl ?_ (.cons rfl ?_ (.cons rfl ?_ (.cons rfl ?_ (.nil _)))))))
        · intro L v W3 hd hn ⟨hB, hz, s0, s1, s2, h0, h1, h2, h3, h4, h5⟩ K hK
          refine wp_load_any 25 _ rfl _ rfl 64 25 _ s0 _ Try.underlying25 rfl Try.size25 ?_
          exact hK _ _ _ rfl ⟨hB, hz, s0, s1, s2, (fun _ => rfl), h1, h2, h3, h4, h5⟩
        · intro L v W3 hd hn ⟨hB, hz, s0, s1, s2, h0, h1, h2, h3, h4, h5⟩ K hK
          have e0 := h0 (hd ⟨0, .data⟩ (by simp) rfl)
          go_wp2_with (go_at_call 143; refine (degree_any f _).mono ?_; rintro e wy ⟨rfl, hy⟩)
          exact hK _ (.int .i64 (deg f)) _ (by simp only [Act.put, List.setIfInBounds_toArray, List.set_cons_zero, List.set_cons_succ, e0]) ⟨hB.trans (hy.mono hB.size), (Nat.le_trans hz hy.size), (s0).below hy (s0).lt, (s1).below hy (s1).lt, (s2).below hy (s2).lt, h0, (fun _ => rfl), h2, h3, h4, h5⟩
        · intro L v W3 hd hn ⟨hB, hz, s0, s1, s2, h0, h1, h2, h3, h4, h5⟩ K hK
          refine wp_load_any 25 _ rfl _ rfl 64 25 _ s1 _ Try.underlying25 rfl Try.size25 ?_
          exact hK _ _ _ rfl ⟨hB, hz, s0, s1, s2, h0, h1, (fun _ => rfl), h3, h4, h5⟩
        · intro L v W3 hd hn ⟨hB, hz, s0, s1, s2, h0, h1, h2, h3, h4, h5⟩ K hK
          have e2 := h2 (hd ⟨2, .data⟩ (by simp) rfl)
          go_wp2_with (go_at_call 143; refine (degree_any g _).mono ?_; rintro e wy ⟨rfl, hy⟩)
          exact hK _ (.int .i64 (deg g)) _ (by simp only [Act.put, List.setIfInBounds_toArray, List.set_cons_zero, List.set_cons_succ, e2]) ⟨hB.trans (hy.mono hB.size), (Nat.le_trans hz hy.size), (s0).below hy (s0).lt, (s1).below hy (s1).lt, (s2).below hy (s2).lt, h0, h1, h2, (fun _ => rfl), h4, h5⟩
        · intro L v W3 hd hn ⟨hB, hz, s0, s1, s2, h0, h1, h2, h3, h4, h5⟩ K hK
          have e1 := h1 (hd ⟨1, .data⟩ (by simp) rfl)
          have e3 := h3 (hd ⟨3, .data⟩ (by simp) rfl)
          go_wp2_with fail
          exact hK _ (.int .i64 (deg f * deg g)) _ (by simp only [Act.put, List.setIfInBounds_toArray, List.set_cons_zero, List.set_cons_succ, e1, e3]) ⟨hB, hz, s0, s1, s2, h0, h1, h2, h3, (fun _ => rfl), h5⟩
        · intro L v W3 hd hn ⟨hB, hz, s0, s1, s2, h0, h1, h2, h3, h4, h5⟩ K hK
          have e4 := h4 (hd ⟨4, .data⟩ (by simp) rfl)
          go_wp2_with fail
          exact hK _ (.bool true) _ (by simp only [Act.put, List.setIfInBounds_toArray, List.set_cons_zero, List.set_cons_succ, e4]) ⟨hB, hz, s0, s1, s2, h0, h1, h2, h3, h4, (fun _ => rfl)⟩
      · intro L v W3 hL ⟨hB, hz, s0, s1, s2, h0, h1, h2, h3, h4, h5⟩
        have e0 := h0 (hL 0 (by decide))
        have e1 := h1 (hL 1 (by decide))
        have e2 := h2 (hL 2 (by decide))
        have e3 := h3 (hL 3 (by decide))
        have e4 := h4 (hL 4 (by decide))
        have e5 := h5 (hL 5 (by decide))
        clear hL h0 h1 h2 h3 h4 h5
        simp only [Exit.then, e0, e1, e2, e3, e4, e5]
        clear e0 e1 e2 e3 e4 e5
        clear B0
        have B0 := s0
        clear s0
        clear B1
        have B1 := s1
        clear s1
        clear B2
        have B2 := s2
        clear s2
        clear hb
        have hb := hB
        clear hB
        clear hbase hz lt_B0 lt_B1 lt_B2
        have lt_B0 := B0.lt
        have lt_B1 := B1.lt
        have lt_B2 := B2.lt
        go_wp2_with (first | rw [← zero64] | (refine wpList_store_blk rfl 25 (.tmp 6) (.tmp 26) rfl _ 64 (fun _ => 0) rfl rfl 25 _ (B2) Try.size25 ?_))
        have qB0 : Blk (W3.setRow (w.heap.size + 1 + 1) (bcells 64 (fun _ => 0))) (w.heap.size) 64 25 (f) := (B0.rowOther (by omega))
        have qB1 : Blk (W3.setRow (w.heap.size + 1 + 1) (bcells 64 (fun _ => 0))) (w.heap.size + 1) 64 25 (g) := (B1.rowOther (by omega))
        have qB2 : Blk (W3.setRow (w.heap.size + 1 + 1) (bcells 64 (fun _ => 0))) (w.heap.size + 1 + 1) 64 25 (fun _ => 0) := (B2.row (fun _ => 0))
        have qhb : Below w.heap.size w (W3.setRow (w.heap.size + 1 + 1) (bcells 64 (fun _ => 0))) := (below_row hb (by omega) _)
        obtain ⟨W4, hwo⟩ : ∃ v : World, v = (W3.setRow (w.heap.size + 1 + 1) (bcells 64 (fun _ => 0))) := ⟨_, rfl⟩
        rw [← hwo] at qB0 qB1 qB2 qhb ⊢
        clear hwo
        clear B0 B1 B2 hb
        have B0 := qB0
        have B1 := qB1
        have B2 := qB2
        have hb := qhb
        clear qB0 qB1 qB2 qhb
        try simp only [Act.put, List.setIfInBounds_toArray, List.set_cons_zero, List.set_cons_succ]
        refine bodyPost_ret (results_bt rfl _ _ _ 64 25 5 _ rfl B2 Try.underlying25 Try.size25) rfl ⟨by first | (rw [HV.out]; rfl) | rw [HV.out], hb⟩
  · have HV := Lib.hid (cmV_bad hc)
    rw [hc]
    clear hc
    go_upto_region 3 with (fail)
    have lt_B0 := B0.lt
    have lt_B1 := B1.lt
    have lt_B2 := B2.lt
    go_wp2_with (first | rw [← zero64] | (refine wpList_store_blk rfl 25 (.tmp 6) (.tmp 18) rfl _ 64 (fun _ => 0) rfl rfl 25 _ (B2) Try.size25 ?_))
    have qB0 : Blk (W2.setRow (w.heap.size + 1 + 1) (bcells 64 (fun _ => 0))) (w.heap.size) 64 25 (f) := (B0.rowOther (by omega))
    have qB1 : Blk (W2.setRow (w.heap.size + 1 + 1) (bcells 64 (fun _ => 0))) (w.heap.size + 1) 64 25 (g) := (B1.rowOther (by omega))
    have qB2 : Blk (W2.setRow (w.heap.size + 1 + 1) (bcells 64 (fun _ => 0))) (w.heap.size + 1 + 1) 64 25 (fun _ => 0) := (B2.row (fun _ => 0))
    have qhb : Below w.heap.size w (W2.setRow (w.heap.size + 1 + 1) (bcells 64 (fun _ => 0))) := (below_row hb (by omega) _)
    obtain ⟨W3, hwo⟩ : ∃ v : World, v = (W2.setRow (w.heap.size + 1 + 1) (bcells 64 (fun _ => 0))) := ⟨_, rfl⟩
    rw [← hwo] at qB0 qB1 qB2 qhb ⊢
    clear hwo
    clear B0 B1 B2 hb
    have B0 := qB0
    have B1 := qB1
    have B2 := qB2
    have hb := qhb
    clear qB0 qB1 qB2 qhb
    try simp only [Act.put, List.setIfInBounds_toArray, List.set_cons_zero, List.set_cons_succ]
    refine bodyPost_ret (results_bt rfl _ _ _ 64 25 5 _ rfl B2 Try.underlying25 Try.size25) rfl ⟨by first | (rw [HV.out]; rfl) | rw [HV.out], hb⟩
end Go.Proofs.Ytkaaffccklkafaa
