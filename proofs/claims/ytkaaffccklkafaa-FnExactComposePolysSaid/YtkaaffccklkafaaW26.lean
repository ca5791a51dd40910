/-
  Walks: one polynomial in another, the model.
-/
import Derived.Test.YtkaaffccklkafaaW25
namespace Go.Proofs.Ytkaaffccklkafaa
open Go.RowKit
set_option linter.unusedVariables false
set_option linter.unusedSimpArgs false
attribute [local irreducible] deg cmR
set_option maxRecDepth 100000 in
set_option maxHeartbeats 1600000 in
theorem spec_ComposePolys_any (p : Int) (f g : Nat → Nat) (hf : byte f) (hg : byte g) (w : World) :
    Calls Try.prog 76 #[.int .i64 p, .agg (bcells 64 f), .agg (bcells 64 g)] w fun e w' => e = .returned (.tuple #[.agg (bcells 64 (cmV p f g).1), .int .i64 (cmV p f g).2]) ∧ Below w.heap.size w w' := by
  go_enter Try.func76, Try.ntmps76
  go_upto_region 1 with (fail)
  rw [← zero64]
  obtain ⟨W1, hwo⟩ : ∃ v : World, v = (((w.alloc (.cells (bcells 64 (f)) 25)).alloc (.cells (bcells 64 (g)) 25)).alloc (.cells (bcells 64 fun _ => 0) 25)) := ⟨_, rfl⟩
  have B0 : Blk W1 (w.heap.size) 64 25 (f) := by subst hwo; have := (((Blk.new w 64 25 (f)).alloc (.cells (bcells 64 (g)) 25)).alloc (.cells (bcells 64 fun _ => 0) 25)); simpa using this
  have B1 : Blk W1 (w.heap.size + 1) 64 25 (g) := by subst hwo; have := ((Blk.new (w.alloc (.cells (bcells 64 (f)) 25)) 64 25 (g)).alloc (.cells (bcells 64 fun _ => 0) 25)); simpa using this
  have B2 : Blk W1 (w.heap.size + 1 + 1) 64 25 (fun _ => 0) := by subst hwo; have := (Blk.new ((w.alloc (.cells (bcells 64 (f)) 25)).alloc (.cells (bcells 64 (g)) 25)) 64 25 (fun _ => 0)); simpa using this
  have hb : Below w.heap.size w W1 := by subst hwo; exact ((((Below.refl _ _).alloc (Nat.le_refl _) _).alloc (by simp) _).alloc (by simp; omega) _)
  rw [← hwo]
  clear hwo
  go_upto_region 2 with (first | (refine wpList_load_any rfl 25 (.tmp 4) rfl _ rfl 64 25 _ B0 _ Try.underlying25 rfl Try.size25 ?_) | (refine wpList_load_any rfl 25 (.tmp 5) rfl _ rfl 64 25 _ B1 _ Try.underlying25 rfl Try.size25 ?_) | (refine wpList_build_polys rfl 57 _ [f, g] rfl 25 rfl Try.underlying57 Try.elem25 (by simp) (by simp) rfl ?_; intro wa hwa hps hba; clear hwa) | (go_at_call 145; refine (l01Code_any p [f, g] (by simp [hf, hg]) _ _ hps (by simp)).mono ?_; rintro e W2 ⟨rfl, hbb⟩))
  have hBB : Below W1.heap.size W1 W2 := hba.trans (hbb.mono hba.size)
  replace B0 := B0.below hBB B0.lt
  replace B1 := B1.below hBB B1.lt
  replace B2 := B2.below hBB B2.lt
  replace hb := hb.trans (hBB.mono hb.size)
  clear hBB hba hbb hps
  rcases codeL_two p [f, g] with hc | hc
  · obtain ⟨n, hn, n2, n7⟩ := okP_nat (codeL_zero hc).1
    subst hn
    have lf := lt_of_code hc (f := f) (by simp)
    have lg := lt_of_code hc (f := g) (by simp)
    have hpr := prime_of hc
    obtain ⟨mb1, mb2⟩ := deg_mul_bounds f g
    obtain ⟨fb1, fb2⟩ := deg_bounds f
    obtain ⟨gb1, gb2⟩ := deg_bounds g
    by_cases hf0 : deg f < 0
    · have HV := Lib.hid (show cmV (n : Int) f g = (fun _ => 0, 0) by
        have e : deg f = -1 := by omega
        rw [cmV_ok hc (by rw [e]; omega), e, show ((-1 : Int) + 1).toNat = 0 by decide, cmR_z])
      rw [hc]
      clear hc
      go_upto_region 4 with (fail)
      have lt_B0 : (w.heap.size) < W2.heap.size := B0.lt
      have lt_B1 : (w.heap.size + 1) < W2.heap.size := B1.lt
      have lt_B2 : (w.heap.size + 1 + 1) < W2.heap.size := B2.lt
      have hbase : w.heap.size ≤ W2.heap.size := hb.size
      refine wp_region_steps0 Try.mixed (by kernel_rfl) (by kernel_rfl) (fun v => by (simp only [frL, Act.put, List.setIfInBounds_toArray, List.set_cons_zero, List.set_cons_succ, Nat.reduceAdd, Nat.zero_add]; exact rfl))
        (fun L v W3 => Below w.heap.size w W3 ∧ W2.heap.size ≤ W3.heap.size ∧ Blk W3 (w.heap.size) 64 25 (f) ∧ Blk W3 (w.heap.size + 1) 64 25 (g) ∧ Blk W3 (w.heap.size + 1 + 1) 64 25 (fun _ => 0) ∧ (L 0 = true → v 0 = (.agg (bcells 64 (f)))) ∧ (L 1 = true → v 1 = (.int .i64 (deg f))) ∧ (L 2 = true → v 2 = (.agg (bcells 64 (g)))) ∧ (L 3 = true → v 3 = (.int .i64 (deg g))) ∧ (L 4 = true → v 4 = (.int .i64 (deg f))) ∧ (L 5 = true → v 5 = (.int .i64 (deg g)))) ?_ ?_ ?_
      · intro v hv0
        exact ⟨hb.drew, Nat.le_refl _, B0.drew, B1.drew, B2.drew, (fun h => by cases h), (fun h => by cases h), (fun h => by cases h), (fun h => by cases h), (fun h => by cases h), (fun h => by cases h)⟩
      · refine (.cons rfl ?_ (.cons rfl ?_ (.cons rfl ?_ (.cons rfl ?_ (.cons rfl ?_ (.cons rfl ?_ (.nil _)))))))
        · intro L v W3 hd hn ⟨hB, hz, s0, s1, s2, h0, h1, h2, h3, h4, h5⟩ K hK
          refine wp_load_any 25 _ rfl _ rfl 64 25 _ s0 _ Try.underlying25 rfl Try.size25 ?_
          exact hK _ _ _ rfl ⟨hB, hz, s0, s1, s2, (fun _ => rfl), h1, h2, h3, h4, h5⟩
        · intro L v W3 hd hn ⟨hB, hz, s0, s1, s2, h0, h1, h2, h3, h4, h5⟩ K hK
          have e0 := h0 (hd ⟨0, .data⟩ (by simp) rfl)
          go_wp2_with (go_at_call 151; refine (l01Deg_any f _).mono ?_; rintro e wy ⟨rfl, hy⟩)
          exact hK _ (.int .i64 (deg f)) _ (by simp only [Act.put, List.setIfInBounds_toArray, List.set_cons_zero, List.set_cons_succ, e0]) ⟨hB.trans (hy.mono hB.size), (Nat.le_trans hz hy.size), (s0).below hy (s0).lt, (s1).below hy (s1).lt, (s2).below hy (s2).lt, h0, (fun _ => rfl), h2, h3, h4, h5⟩
        · intro L v W3 hd hn ⟨hB, hz, s0, s1, s2, h0, h1, h2, h3, h4, h5⟩ K hK
          refine wp_load_any 25 _ rfl _ rfl 64 25 _ s1 _ Try.underlying25 rfl Try.size25 ?_
          exact hK _ _ _ rfl ⟨hB, hz, s0, s1, s2, h0, h1, (fun _ => rfl), h3, h4, h5⟩
        · intro L v W3 hd hn ⟨hB, hz, s0, s1, s2, h0, h1, h2, h3, h4, h5⟩ K hK
          have e2 := h2 (hd ⟨2, .data⟩ (by simp) rfl)
          go_wp2_with (go_at_call 151; refine (l01Deg_any g _).mono ?_; rintro e wy ⟨rfl, hy⟩)
          exact hK _ (.int .i64 (deg g)) _ (by simp only [Act.put, List.setIfInBounds_toArray, List.set_cons_zero, List.set_cons_succ, e2]) ⟨hB.trans (hy.mono hB.size), (Nat.le_trans hz hy.size), (s0).below hy (s0).lt, (s1).below hy (s1).lt, (s2).below hy (s2).lt, h0, h1, h2, (fun _ => rfl), h4, h5⟩
        · intro L v W3 hd hn ⟨hB, hz, s0, s1, s2, h0, h1, h2, h3, h4, h5⟩ K hK
          have e1 := h1 (hd ⟨1, .data⟩ (by simp) rfl)
          go_wp2_with fail
          exact hK _ (.int .i64 (deg f)) _ (by simp only [Act.put, List.setIfInBounds_toArray, List.set_cons_zero, List.set_cons_succ, e1]) ⟨hB, hz, s0, s1, s2, h0, h1, h2, h3, (fun _ => rfl), h5⟩
        · intro L v W3 hd hn ⟨hB, hz, s0, s1, s2, h0, h1, h2, h3, h4, h5⟩ K hK
          have e3 := h3 (hd ⟨3, .data⟩ (by simp) rfl)
          go_wp2_with fail
          exact hK _ (.int .i64 (deg g)) _ (by simp only [Act.put, List.setIfInBounds_toArray, List.set_cons_zero, List.set_cons_succ, e3]) ⟨hB, hz, s0, s1, s2, h0, h1, h2, h3, h4, (fun _ => rfl)⟩
      · intro L v W3 hL ⟨hB, hz, s0, s1, s2, h0, h1, h2, h3, h4, h5⟩
        have e0 := h0 (hL 0 (by decide))
        have e1 := h1 (hL 1 (by decide))
        have e2 := h2 (hL 2 (by decide))
        have e3 := h3 (hL 3 (by decide))
        have e4 := h4 (hL 4 (by decide))
        have e5 := h5 (hL 5 (by decide))
        clear hL h0 h1 h2 h3 h4 h5
        simp only [Exit.then, e0, e1, e2, e3, e4, e5]
        clear e0 e1 e2 e3 e4 e5
        clear B0
        have B0 := s0
        clear s0
        clear B1
        have B1 := s1
        clear s1
        clear B2
        have B2 := s2
        clear s2
        clear hb
        have hb := hB
        clear hB
        clear hbase hz lt_B0 lt_B1 lt_B2
        go_upto_region 6 with (fail)
        have lt_B0 := B0.lt
        have lt_B1 := B1.lt
        have lt_B2 := B2.lt
        go_wp2_with (first | rw [← zero64] | (refine wpList_store_blk rfl 25 (.tmp 6) (.tmp 31) rfl _ 64 (fun _ => 0) rfl rfl 25 _ (B2) Try.size25 ?_; try simp only [Act.put]; go_wp2_with fail))
        have qB0 : Blk (W3.setRow (w.heap.size + 1 + 1) (bcells 64 (fun _ => 0))) (w.heap.size) 64 25 (f) := (B0.rowOther (by omega))
        have qB1 : Blk (W3.setRow (w.heap.size + 1 + 1) (bcells 64 (fun _ => 0))) (w.heap.size + 1) 64 25 (g) := (B1.rowOther (by omega))
        have qB2 : Blk (W3.setRow (w.heap.size + 1 + 1) (bcells 64 (fun _ => 0))) (w.heap.size + 1 + 1) 64 25 (fun _ => 0) := (B2.row (fun _ => 0))
        have qhb : Below w.heap.size w (W3.setRow (w.heap.size + 1 + 1) (bcells 64 (fun _ => 0))) := (below_row hb (by omega) _)
        obtain ⟨W4, hwo⟩ : ∃ v : World, v = (W3.setRow (w.heap.size + 1 + 1) (bcells 64 (fun _ => 0))) := ⟨_, rfl⟩
        rw [← hwo] at qB0 qB1 qB2 qhb ⊢
        clear hwo
        clear B0 B1 B2 hb
        have B0 := qB0
        have B1 := qB1
        have B2 := qB2
        have hb := qhb
        clear qB0 qB1 qB2 qhb
        try simp only [Act.put, List.setIfInBounds_toArray, List.set_cons_zero, List.set_cons_succ]
        refine bodyPost_ret (results_bt rfl _ _ _ 64 25 5 _ rfl B2 Try.underlying25 Try.size25) rfl ⟨by first | (rw [HV.out]; rfl) | rw [HV.out], hb⟩
    · by_cases hg0 : deg g ≤ 0
      · have hle : deg f * deg g ≤ 63 := by
          have := Int.mul_nonpos_of_nonneg_of_nonpos (show 0 ≤ deg f by omega) hg0
          omega
        have HV := Lib.hid (cmV_ok hc hle)
        have HE := Lib.hid (show bcells 64 (cmV (n : Int) f g).1 = bcells 64 (fun k => if k = 0 then hrN n (g 0) f 64 else 0) by
          rw [HV.out]
          obtain ⟨m, m1, m2, m3⟩ := hrN_deg n (g 0) f
          obtain ⟨c1, c2⟩ := cmR_const (p := n) (f := f) (g := g) (n := (deg f).toNat) (by omega) hg0 (by omega) (deg f + 1).toNat (by omega)
          have e : 63 - (deg f).toNat = m := by omega
          rw [e] at c2
          have c3 := c2 m3
          rw [show m + (deg f + 1).toNat = 64 by omega] at c3
          refine bcells_congr (fun i hi => ?_)
          by_cases h : i = 0
          · subst h; rw [if_pos rfl]; exact c3
          · rw [if_neg h]; exact c1 i (by omega) hi)
        have HV2 := Lib.hid (show (cmV (n : Int) f g).2 = 0 by rw [HV.out])
        have HP := Lib.hid (fun W => l01Point_any n f (g 0) W n2 n7 (lg 0 (by omega)) lf)
        have hlt := hrN_lt n (g 0) f 64 (show 0 < n by omega)
        obtain ⟨hv, hhv⟩ : ∃ v, v = hrN n (g 0) f 64 := ⟨_, rfl⟩
        rw [← hhv] at HE HP hlt
        clear hhv HV
        rw [hc]
        clear hc
        go_upto_region 4 with (fail)
        have lt_B0 : (w.heap.size) < W2.heap.size := B0.lt
        have lt_B1 : (w.heap.size + 1) < W2.heap.size := B1.lt
        have lt_B2 : (w.heap.size + 1 + 1) < W2.heap.size := B2.lt
        have hbase : w.heap.size ≤ W2.heap.size := hb.size
        refine wp_region_steps0 Try.mixed (by kernel_rfl) (by kernel_rfl) (fun v => by (simp only [frL, Act.put, List.setIfInBounds_toArray, List.set_cons_zero, List.set_cons_succ, Nat.reduceAdd, Nat.zero_add]; exact rfl))
          (fun L v W3 => Below w.heap.size w W3 ∧ W2.heap.size ≤ W3.heap.size ∧ Blk W3 (w.heap.size) 64 25 (f) ∧ Blk W3 (w.heap.size + 1) 64 25 (g) ∧ Blk W3 (w.heap.size + 1 + 1) 64 25 (fun _ => 0) ∧ (L 0 = true → v 0 = (.agg (bcells 64 (f)))) ∧ (L 1 = true → v 1 = (.int .i64 (deg f))) ∧ (L 2 = true → v 2 = (.agg (bcells 64 (g)))) ∧ (L 3 = true → v 3 = (.int .i64 (deg g))) ∧ (L 4 = true → v 4 = (.int .i64 (deg f))) ∧ (L 5 = true → v 5 = (.int .i64 (deg g)))) ?_ ?_ ?_
        · intro v hv0
          exact ⟨hb.drew, Nat.le_refl _, B0.drew, B1.drew, B2.drew, (fun h => by cases h), (fun h => by cases h), (fun h => by cases h), (fun h => by cases h), (fun h => by cases h), (fun h => by cases h)⟩
        · refine (.cons rfl ?_ (.cons rfl ?_ (.cons rfl ?_ (.cons rfl ?_ (.cons rfl ?_ (.cons rfl ?_ (.nil _)))))))
          · intro L v W3 hd hn ⟨hB, hz, s0, s1, s2, h0, h1, h2, h3, h4, h5⟩ K hK
            refine wp_load_any 25 _ rfl _ rfl 64 25 _ s0 _ Try.underlying25 rfl Try.size25 ?_
            exact hK _ _ _ rfl ⟨hB, hz, s0, s1, s2, (fun _ => rfl), h1, h2, h3, h4, h5⟩
          · intro L v W3 hd hn ⟨hB, hz, s0, s1, s2, h0, h1, h2, h3, h4, h5⟩ K hK
            have e0 := h0 (hd ⟨0, .data⟩ (by simp) rfl)
            go_wp2_with (go_at_call 151; refine (l01Deg_any f _).mono ?_; rintro e wy ⟨rfl, hy⟩)
            exact hK _ (.int .i64 (deg f)) _ (by simp only [Act.put, List.setIfInBounds_toArray, List.set_cons_zero, List.set_cons_succ, e0]) ⟨hB.trans (hy.mono hB.size), (Nat.le_trans hz hy.size), (s0).below hy (s0).lt, (s1).below hy (s1).lt, (s2).below hy (s2).lt, h0, (fun _ => rfl), h2, h3, h4, h5⟩
          · intro L v W3 hd hn ⟨hB, hz, s0, s1, s2, h0, h1, h2, h3, h4, h5⟩ K hK
            refine wp_load_any 25 _ rfl _ rfl 64 25 _ s1 _ Try.underlying25 rfl Try.size25 ?_
            exact hK _ _ _ rfl ⟨hB, hz, s0, s1, s2, h0, h1, (fun _ => rfl), h3, h4, h5⟩
          · intro L v W3 hd hn ⟨hB, hz, s0, s1, s2, h0, h1, h2, h3, h4, h5⟩ K hK
            have e2 := h2 (hd ⟨2, .data⟩ (by simp) rfl)
            go_wp2_with (go_at_call 151; refine (l01Deg_any g _).mono ?_; rintro e wy ⟨rfl, hy⟩)
            exact hK _ (.int .i64 (deg g)) _ (by simp only [Act.put, List.setIfInBounds_toArray, List.set_cons_zero, List.set_cons_succ, e2]) ⟨hB.trans (hy.mono hB.size), (Nat.le_trans hz hy.size), (s0).below hy (s0).lt, (s1).below hy (s1).lt, (s2).below hy (s2).lt, h0, h1, h2, (fun _ => rfl), h4, h5⟩
          · intro L v W3 hd hn ⟨hB, hz, s0, s1, s2, h0, h1, h2, h3, h4, h5⟩ K hK
            have e1 := h1 (hd ⟨1, .data⟩ (by simp) rfl)
            go_wp2_with fail
            exact hK _ (.int .i64 (deg f)) _ (by simp only [Act.put, List.setIfInBounds_toArray, List.set_cons_zero, List.set_cons_succ, e1]) ⟨hB, hz, s0, s1, s2, h0, h1, h2, h3, (fun _ => rfl), h5⟩
          · intro L v W3 hd hn ⟨hB, hz, s0, s1, s2, h0, h1, h2, h3, h4, h5⟩ K hK
            have e3 := h3 (hd ⟨3, .data⟩ (by simp) rfl)
            go_wp2_with fail
            exact hK _ (.int .i64 (deg g)) _ (by simp only [Act.put, List.setIfInBounds_toArray, List.set_cons_zero, List.set_cons_succ, e3]) ⟨hB, hz, s0, s1, s2, h0, h1, h2, h3, h4, (fun _ => rfl)⟩
        · intro L v W3 hL ⟨hB, hz, s0, s1, s2, h0, h1, h2, h3, h4, h5⟩
          have e0 := h0 (hL 0 (by decide))
          have e1 := h1 (hL 1 (by decide))
          have e2 := h2 (hL 2 (by decide))
          have e3 := h3 (hL 3 (by decide))
          have e4 := h4 (hL 4 (by decide))
          have e5 := h5 (hL 5 (by decide))
          clear hL h0 h1 h2 h3 h4 h5
          simp only [Exit.then, e0, e1, e2, e3, e4, e5]
          clear e0 e1 e2 e3 e4 e5
          clear B0
          have B0 := s0
          clear s0
          clear B1
          have B1 := s1
          clear s1
          clear B2
          have B2 := s2
          clear s2
          clear hb
          have hb := hB
          clear hB
          clear hbase hz lt_B0 lt_B1 lt_B2
          go_upto_region 7 with (fail)
          go_upto_region 8 with (fail)
          have cc := B1.cell (i := 0) (by omega)
          have hg0b := lg 0 (by omega)
          have lt_B0 := B0.lt
          have lt_B1 := B1.lt
          have lt_B2 := B2.lt
          go_wp2_with (first | rw [← zero64] | (refine wpList_load_any rfl 25 (.tmp 4) rfl _ rfl 64 25 _ (B0) _ Try.underlying25 rfl Try.size25 ?_) | (go_at_call 162; refine (HP.out _).mono ?_; rintro e W4 ⟨rfl, hW4⟩; replace B0 := B0.below hW4 B0.lt; replace B1 := B1.below hW4 B1.lt; replace B2 := B2.below hW4 B2.lt; replace hb := (hb).trans (hW4.mono (hb).size)) | (refine wpList_build_of rfl 25 _ rfl (bcells 64 fun k => if k = 0 then hv else 0) (by rw [Array.toList_map]; exact built_c hv) ?_) | (refine wpList_store_blk rfl 25 (.tmp 6) (.tmp 42) rfl _ 64 (fun k => if k = 0 then hv else 0) rfl rfl 25 _ (B2) Try.size25 ?_; try simp only [Act.put]; go_wp2_with fail))
          have qB0 : Blk (W4.setRow (w.heap.size + 1 + 1) (bcells 64 (fun k => if k = 0 then hv else 0))) (w.heap.size) 64 25 (f) := (B0.rowOther (by omega))
          have qB1 : Blk (W4.setRow (w.heap.size + 1 + 1) (bcells 64 (fun k => if k = 0 then hv else 0))) (w.heap.size + 1) 64 25 (g) := (B1.rowOther (by omega))
          have qB2 : Blk (W4.setRow (w.heap.size + 1 + 1) (bcells 64 (fun k => if k = 0 then hv else 0))) (w.heap.size + 1 + 1) 64 25 (fun k => if k = 0 then hv else 0) := (B2.row (fun k => if k = 0 then hv else 0))
          have qhb : Below w.heap.size w (W4.setRow (w.heap.size + 1 + 1) (bcells 64 (fun k => if k = 0 then hv else 0))) := (below_row hb (by omega) _)
          obtain ⟨W5, hwo⟩ : ∃ v : World, v = (W4.setRow (w.heap.size + 1 + 1) (bcells 64 (fun k => if k = 0 then hv else 0))) := ⟨_, rfl⟩
          rw [← hwo] at qB0 qB1 qB2 qhb ⊢
          clear hwo
          clear B0 B1 B2 hb
          have B0 := qB0
          have B1 := qB1
          have B2 := qB2
          have hb := qhb
          clear qB0 qB1 qB2 qhb
          try simp only [Act.put, List.setIfInBounds_toArray, List.set_cons_zero, List.set_cons_succ]
          refine bodyPost_ret (results_bt rfl _ _ _ 64 25 5 _ rfl B2 Try.underlying25 Try.size25) rfl ⟨by first | (rw [HE.out, HV2.out]; rfl) | rw [HE.out, HV2.out], hb⟩
      · by_cases hlim : deg f * deg g ≤ 63
        · have HV := Lib.hid (cmV_ok hc hlim)
          rw [hc]
          clear hc
          obtain ⟨nn, hnn⟩ : ∃ nn : Nat, deg f = (nn : Int) := ⟨(deg f).toNat, by omega⟩
          obtain ⟨mm, hmm⟩ : ∃ mm : Nat, deg g = (mm : Int) := ⟨(deg g).toNat, by omega⟩
          obtain ⟨NN, hNN⟩ : ∃ NN, NN = nn + 1 := ⟨_, rfl⟩
          have HV2 := Lib.hid (show cmV (n : Int) f g = (cmR n f g nn NN, 0) by
            rw [hNN, HV.out, hnn, show (((nn : Int) + 1).toNat) = nn + 1 by omega, Int.toNat_natCast])
          have hfits := Lib.hid (fun (j : Nat) (hj : j ≤ nn) => cmR_fits (p := n) (f := f) (g := g) (n := nn) (m := mm) (by omega) hmm (by
            have h : ((nn * mm : Nat) : Int) ≤ 63 := by rw [Int.natCast_mul, ← hnn, ← hmm]; exact hlim
            omega) hj)
          have HD := Lib.hid (show deg f = (NN : Int) - 1 by omega)
          have HNN := Lib.hid hNN
          have hN6 : NN ≤ 64 := by omega
          have hnn6 : nn < 64 := by omega
          clear HV hmm hnn mm hNN hnn6
          go_upto_region 4 with (fail)
          have lt_B0 : (w.heap.size) < W2.heap.size := B0.lt
          have lt_B1 : (w.heap.size + 1) < W2.heap.size := B1.lt
          have lt_B2 : (w.heap.size + 1 + 1) < W2.heap.size := B2.lt
          have hbase : w.heap.size ≤ W2.heap.size := hb.size
          refine wp_region_steps0 Try.mixed (by kernel_rfl) (by kernel_rfl) (fun v => by (simp only [frL, Act.put, List.setIfInBounds_toArray, List.set_cons_zero, List.set_cons_succ, Nat.reduceAdd, Nat.zero_add]; exact rfl))
            (fun L v W3 => Below w.heap.size w W3 ∧ W2.heap.size ≤ W3.heap.size ∧ Blk W3 (w.heap.size) 64 25 (f) ∧ Blk W3 (w.heap.size + 1) 64 25 (g) ∧ Blk W3 (w.heap.size + 1 + 1) 64 25 (fun _ => 0) ∧ (L 0 = true → v 0 = (.agg (bcells 64 (f)))) ∧ (L 1 = true → v 1 = (.int .i64 (deg f))) ∧ (L 2 = true → v 2 = (.agg (bcells 64 (g)))) ∧ (L 3 = true → v 3 = (.int .i64 (deg g))) ∧ (L 4 = true → v 4 = (.int .i64 (deg f))) ∧ (L 5 = true → v 5 = (.int .i64 (deg g)))) ?_ ?_ ?_
          · intro v hv0
            exact ⟨hb.drew, Nat.le_refl _, B0.drew, B1.drew, B2.drew, (fun h => by cases h), (fun h => by cases h), (fun h => by cases h), (fun h => by cases h), (fun h => by cases h), (fun h => by cases h)⟩
          · refine (.cons rfl ?_ (.cons rfl ?_ (.cons rfl ?_ (.cons rfl ?_ (.cons rfl ?_ (.cons rfl ?_ (.nil _)))))))
            · intro L v W3 hd hn ⟨hB, hz, s0, s1, s2, h0, h1, h2, h3, h4, h5⟩ K hK
              refine wp_load_any 25 _ rfl _ rfl 64 25 _ s0 _ Try.underlying25 rfl Try.size25 ?_
              exact hK _ _ _ rfl ⟨hB, hz, s0, s1, s2, (fun _ => rfl), h1, h2, h3, h4, h5⟩
            · intro L v W3 hd hn ⟨hB, hz, s0, s1, s2, h0, h1, h2, h3, h4, h5⟩ K hK
              have e0 := h0 (hd ⟨0, .data⟩ (by simp) rfl)
              go_wp2_with (go_at_call 151; refine (l01Deg_any f _).mono ?_; rintro e wy ⟨rfl, hy⟩)
              exact hK _ (.int .i64 (deg f)) _ (by simp only [Act.put, List.setIfInBounds_toArray, List.set_cons_zero, List.set_cons_succ, e0]) ⟨hB.trans (hy.mono hB.size), (Nat.le_trans hz hy.size), (s0).below hy (s0).lt, (s1).below hy (s1).lt, (s2).below hy (s2).lt, h0, (fun _ => rfl), h2, h3, h4, h5⟩
            · intro L v W3 hd hn ⟨hB, hz, s0, s1, s2, h0, h1, h2, h3, h4, h5⟩ K hK
              refine wp_load_any 25 _ rfl _ rfl 64 25 _ s1 _ Try.underlying25 rfl Try.size25 ?_
              exact hK _ _ _ rfl ⟨hB, hz, s0, s1, s2, h0, h1, (fun _ => rfl), h3, h4, h5⟩
            · intro L v W3 hd hn ⟨hB, hz, s0, s1, s2, h0, h1, h2, h3, h4, h5⟩ K hK
              have e2 := h2 (hd ⟨2, .data⟩ (by simp) rfl)
              go_wp2_with (go_at_call 151; refine (l01Deg_any g _).mono ?_; rintro e wy ⟨rfl, hy⟩)
              exact hK _ (.int .i64 (deg g)) _ (by simp only [Act.put, List.setIfInBounds_toArray, List.set_cons_zero, List.set_cons_succ, e2]) ⟨hB.trans (hy.mono hB.size), (Nat.le_trans hz hy.size), (s0).below hy (s0).lt, (s1).below hy (s1).lt, (s2).below hy (s2).lt, h0, h1, h2, (fun _ => rfl), h4, h5⟩
            · intro L v W3 hd hn ⟨hB, hz, s0, s1, s2, h0, h1, h2, h3, h4, h5⟩ K hK
              have e1 := h1 (hd ⟨1, .data⟩ (by simp) rfl)
              go_wp2_with fail
              exact hK _ (.int .i64 (deg f)) _ (by simp only [Act.put, List.setIfInBounds_toArray, List.set_cons_zero, List.set_cons_succ, e1]) ⟨hB, hz, s0, s1, s2, h0, h1, h2, h3, (fun _ => rfl), h5⟩
            · intro L v W3 hd hn ⟨hB, hz, s0, s1, s2, h0, h1, h2, h3, h4, h5⟩ K hK
              have e3 := h3 (hd ⟨3, .data⟩ (by simp) rfl)
              go_wp2_with fail
              exact hK _ (.int .i64 (deg g)) _ (by simp only [Act.put, List.setIfInBounds_toArray, List.set_cons_zero, List.set_cons_succ, e3]) ⟨hB, hz, s0, s1, s2, h0, h1, h2, h3, h4, (fun _ => rfl)⟩
          · intro L v W3 hL ⟨hB, hz, s0, s1, s2, h0, h1, h2, h3, h4, h5⟩
            have e0 := h0 (hL 0 (by decide))
            have e1 := h1 (hL 1 (by decide))
            have e2 := h2 (hL 2 (by decide))
            have e3 := h3 (hL 3 (by decide))
            have e4 := h4 (hL 4 (by decide))
            have e5 := h5 (hL 5 (by decide))
            clear hL h0 h1 h2 h3 h4 h5
            simp only [Exit.then, e0, e1, e2, e3, e4, e5]
            clear e0 e1 e2 e3 e4 e5
            clear B0
            have B0 := s0
            clear s0
            clear B1
            have B1 := s1
            clear s1
            clear B2
            have B2 := s2
            clear s2
            clear hb
            have hb := hB
            clear hB
            clear hbase hz lt_B0 lt_B1 lt_B2
            go_upto_region 7 with (fail)
            go_upto_region 9 with (fail)
            go_upto_region 11 with (fail)
            have lt_B0 := B0.lt
            have lt_B1 := B1.lt
            have lt_B2 := B2.lt
            go_upto_region 12 with (first | rw [← zero64] | (refine wpList_store_blk rfl 25 (.tmp 11) (.tmp 49) rfl _ 64 (fun _ => 0) rfl rfl 25 _ ((Blk.new W3 64 25 (fun _ => 0))) Try.size25 ?_; try simp only [Act.put]))
            have lt_B0 := B0.lt
            have lt_B1 := B1.lt
            have lt_B2 := B2.lt
            have lhb := hb.size
            have qB0 : Blk ((W3.alloc (.cells (bcells 64 fun _ => 0) 25)).setRow (W3.heap.size) (bcells 64 (fun _ => 0))) (w.heap.size) 64 25 (f) := ((B0.alloc (.cells (bcells 64 fun _ => 0) 25)).rowOther (by omega))
            have qB1 : Blk ((W3.alloc (.cells (bcells 64 fun _ => 0) 25)).setRow (W3.heap.size) (bcells 64 (fun _ => 0))) (w.heap.size + 1) 64 25 (g) := ((B1.alloc (.cells (bcells 64 fun _ => 0) 25)).rowOther (by omega))
            have qB2 : Blk ((W3.alloc (.cells (bcells 64 fun _ => 0) 25)).setRow (W3.heap.size) (bcells 64 (fun _ => 0))) (w.heap.size + 1 + 1) 64 25 (fun _ => 0) := ((B2.alloc (.cells (bcells 64 fun _ => 0) 25)).rowOther (by omega))
            have qB3 : Blk ((W3.alloc (.cells (bcells 64 fun _ => 0) 25)).setRow (W3.heap.size) (bcells 64 (fun _ => 0))) (W3.heap.size) 64 25 (fun _ => 0) := ((Blk.new W3 64 25 (fun _ => 0)).row (fun _ => 0))
            have qhb : Below w.heap.size w ((W3.alloc (.cells (bcells 64 fun _ => 0) 25)).setRow (W3.heap.size) (bcells 64 (fun _ => 0))) := (below_row (hb.alloc (by have := hb.size; simp; omega) (.cells (bcells 64 fun _ => 0) 25)) (by omega) _)
            obtain ⟨W4, hwo⟩ : ∃ v : World, v = ((W3.alloc (.cells (bcells 64 fun _ => 0) 25)).setRow (W3.heap.size) (bcells 64 (fun _ => 0))) := ⟨_, rfl⟩
            rw [← hwo] at qB0 qB1 qB2 qB3 qhb ⊢
            clear hwo
            clear B0 B1 B2 hb
            have B0 := qB0
            have B1 := qB1
            have B2 := qB2
            have B3 := qB3
            have hb := qhb
            clear qB0 qB1 qB2 qB3 qhb
            obtain ⟨N1, hNN⟩ : ∃ n : Nat, n = W3.heap.size := ⟨_, rfl⟩
            rw [← hNN] at lt_B0 lt_B1 lt_B2 lhb B3 ⊢
            clear hNN
            have zN1_0 := lt_B0
            have zN1_1 := lt_B1
            have zN1_2 := lt_B2
            have zN1 := lhb
            clear lt_B0 lt_B1 lt_B2 lhb
            try simp only [Act.put, List.setIfInBounds_toArray, List.set_cons_zero, List.set_cons_succ]
            go_upto_region 99 with (fail)
            clear hlim mb1 mb2 hf0 hg0
            rw [HD.out]
            go_loopw [12] (fun i wr => ∃ q j : Nat, Hid (q + j = NN) ∧ i = .int .i64 ((q : Int) - 1) ∧ Below w.heap.size w wr ∧ Blk wr (w.heap.size) 64 25 f ∧ Blk wr (w.heap.size + 1) 64 25 g ∧ Blk wr (w.heap.size + 1 + 1) 64 25 (fun _ => 0) ∧ Blk wr (N1) 64 25 (cmR n f g nn j)) (fun i _ => (intOf i + 1).toNat)
            case atStart => exact ⟨NN, 0, Lib.hid (by omega), rfl, hb, B0, B1, B2, by rw [cmR_z]; exact B3⟩
            case round =>
              clear hb B0 B1 B2 B3
              obtain ⟨q, j, hqj, rfl, hb, B0, B1, B2, B3⟩ := hrel
              by_cases hq0 : q = 0
              · subst hq0
                have ej : j = NN := by have := hqj.out; omega
                rw [ej] at B3
                clear hqj ej
                go_upto_region 18 with (fail)
                have lt_B0 := B0.lt
                have lt_B1 := B1.lt
                have lt_B2 := B2.lt
                have lt_B3 := B3.lt
                go_wp2_with (first | rw [← zero64] | (refine wpList_load_any rfl 25 (.tmp 11) rfl _ rfl 64 25 _ (B3) _ Try.underlying25 rfl Try.size25 ?_) | (refine wpList_store_blk rfl 25 (.tmp 6) (.tmp 75) rfl _ 64 (cmR n f g nn NN) rfl rfl 25 _ (B2) Try.size25 ?_; try simp only [Act.put]; go_wp2_with fail))
                have qB0 : Blk (wr.setRow (w.heap.size + 1 + 1) (bcells 64 (cmR n f g nn NN))) (w.heap.size) 64 25 (f) := (B0.rowOther (by omega))
                have qB1 : Blk (wr.setRow (w.heap.size + 1 + 1) (bcells 64 (cmR n f g nn NN))) (w.heap.size + 1) 64 25 (g) := (B1.rowOther (by omega))
                have qB2 : Blk (wr.setRow (w.heap.size + 1 + 1) (bcells 64 (cmR n f g nn NN))) (w.heap.size + 1 + 1) 64 25 (cmR n f g nn NN) := (B2.row (cmR n f g nn NN))
                have qB3 : Blk (wr.setRow (w.heap.size + 1 + 1) (bcells 64 (cmR n f g nn NN))) (N1) 64 25 (cmR n f g nn NN) := (B3.rowOther (by omega))
                have qhb : Below w.heap.size w (wr.setRow (w.heap.size + 1 + 1) (bcells 64 (cmR n f g nn NN))) := (below_row hb (by omega) _)
                obtain ⟨W5, hwo⟩ : ∃ v : World, v = (wr.setRow (w.heap.size + 1 + 1) (bcells 64 (cmR n f g nn NN))) := ⟨_, rfl⟩
                rw [← hwo] at qB0 qB1 qB2 qB3 qhb ⊢
                clear hwo
                clear B0 B1 B2 B3 hb
                have B0 := qB0
                have B1 := qB1
                have B2 := qB2
                have B3 := qB3
                have hb := qhb
                clear qB0 qB1 qB2 qB3 qhb
                try simp only [Act.put, List.setIfInBounds_toArray, List.set_cons_zero, List.set_cons_succ]
                refine bodyPost_ret (results_bt rfl _ _ _ 64 25 5 _ rfl B2 Try.underlying25 Try.size25) rfl ⟨by first | (rw [HV2.out]; rfl) | rw [HV2.out], hb⟩
              · obtain ⟨q, rfl⟩ : ∃ t, q = t + 1 := ⟨q - 1, by omega⟩
                rw [show ((q + 1 : Nat) : Int) - 1 = (q : Int) by omega]
                have hq6 : q < 64 := by have := hqj.out; omega
                have HT := Lib.hid (show tmV n (cmR n f g nn j) g = (prd n (cmR n f g nn j) g, true) from if_pos (hfits.out j (by have := hqj.out; have := HNN.out; omega)))
                have HP := Lib.hid (fun W => show Calls Try.prog 146 #[.int .i64 (n : Int), .agg (bcells 64 (cmR n f g nn j)), .agg (bcells 64 g)] W fun e w' => e = .returned (.tuple #[.agg (bcells 64 (prd n (cmR n f g nn j) g)), .bool true]) ∧ Below W.heap.size W w' by
                  have := l01Times_any n (cmR n f g nn j) g W n2 n7 (fun i _ => cmR_lt (by omega) j i) lg
                  rwa [HT.out] at this)
                have HU := Lib.hid (show ∀ k, upd (prd n (cmR n f g nn j) g) 0 ((prd n (cmR n f g nn j) g 0 + f q) % n) k = cmR n f g nn (j + 1) k by
                  have := cmR_upd (p := n) (f := f) (g := g) (n := nn) (by omega) j
                  rwa [show nn - j = q by have := hqj.out; have := HNN.out; omega] at this)
                have hpl := prd_lt (p := n) (f := cmR n f g nn j) (g := g) (by omega) 0
                have hfl := lf q hq6
                obtain ⟨P0, hP0⟩ : ∃ x, x = prd n (cmR n f g nn j) g 0 := ⟨_, rfl⟩
                obtain ⟨F0, hF0⟩ : ∃ x, x = f q := ⟨_, rfl⟩
                rw [← hP0] at hpl
                rw [← hF0] at hfl
                have HPF := Lib.hid (And.intro hP0 hF0)
                have HW := Lib.hid (show ((P0 : Int) + (F0 : Int)) % (n : Int) = (((P0 + F0) % n : Nat) : Int) by push_cast; rfl)
                have hlt := Nat.mod_lt (P0 + F0) (show 0 < n by omega)
                obtain ⟨M0, hM0⟩ : ∃ x, x = (P0 + F0) % n := ⟨_, rfl⟩
                rw [← hM0] at HW hlt
                have HM := Lib.hid hM0
                clear hP0 hF0 hM0
                go_upto_region 15 with (fail)
                have lt_B0 := B0.lt
                have lt_B1 := B1.lt
                have lt_B2 := B2.lt
                have lt_B3 := B3.lt
                go_upto_region 16 with (first | rw [← zero64] | (refine wpList_load_any rfl 25 (.tmp 11) rfl _ rfl 64 25 _ (B3) _ Try.underlying25 rfl Try.size25 ?_) | (refine wpList_load_any rfl 25 (.tmp 5) rfl _ rfl 64 25 _ (B1) _ Try.underlying25 rfl Try.size25 ?_) | (go_at_call 146; refine (HP.out _).mono ?_; rintro e W5 ⟨rfl, hW5⟩; replace B0 := B0.below hW5 B0.lt; replace B1 := B1.below hW5 B1.lt; replace B2 := B2.below hW5 B2.lt; replace B3 := B3.below hW5 B3.lt; replace hb := (hb).trans (hW5.mono (hb).size)) | (refine wpList_store_blk rfl 25 (.tmp 13) (.tmp 60) rfl _ 64 (prd n (cmR n f g nn j) g) rfl rfl 25 _ ((Blk.new W5 64 25 (fun _ => 0))) Try.size25 ?_; try simp only [Act.put]; go_upto_region 16 with (fail)))
                have lt_B0 := B0.lt
                have lt_B1 := B1.lt
                have lt_B2 := B2.lt
                have lt_B3 := B3.lt
                have lhb := hb.size
                have qB0 : Blk ((W5.alloc (.cells (bcells 64 fun _ => 0) 25)).setRow (W5.heap.size) (bcells 64 (prd n (cmR n f g nn j) g))) (w.heap.size) 64 25 (f) := ((B0.alloc (.cells (bcells 64 fun _ => 0) 25)).rowOther (by omega))
                have qB1 : Blk ((W5.alloc (.cells (bcells 64 fun _ => 0) 25)).setRow (W5.heap.size) (bcells 64 (prd n (cmR n f g nn j) g))) (w.heap.size + 1) 64 25 (g) := ((B1.alloc (.cells (bcells 64 fun _ => 0) 25)).rowOther (by omega))
                have qB2 : Blk ((W5.alloc (.cells (bcells 64 fun _ => 0) 25)).setRow (W5.heap.size) (bcells 64 (prd n (cmR n f g nn j) g))) (w.heap.size + 1 + 1) 64 25 (fun _ => 0) := ((B2.alloc (.cells (bcells 64 fun _ => 0) 25)).rowOther (by omega))
                have qB3 : Blk ((W5.alloc (.cells (bcells 64 fun _ => 0) 25)).setRow (W5.heap.size) (bcells 64 (prd n (cmR n f g nn j) g))) (N1) 64 25 (cmR n f g nn j) := ((B3.alloc (.cells (bcells 64 fun _ => 0) 25)).rowOther (by omega))
                have qB4 : Blk ((W5.alloc (.cells (bcells 64 fun _ => 0) 25)).setRow (W5.heap.size) (bcells 64 (prd n (cmR n f g nn j) g))) (W5.heap.size) 64 25 (prd n (cmR n f g nn j) g) := ((Blk.new W5 64 25 (fun _ => 0)).row (prd n (cmR n f g nn j) g))
                have qhb : Below w.heap.size w ((W5.alloc (.cells (bcells 64 fun _ => 0) 25)).setRow (W5.heap.size) (bcells 64 (prd n (cmR n f g nn j) g))) := (below_row (hb.alloc (by have := hb.size; simp; omega) (.cells (bcells 64 fun _ => 0) 25)) (by omega) _)
                obtain ⟨W6, hwo⟩ : ∃ v : World, v = ((W5.alloc (.cells (bcells 64 fun _ => 0) 25)).setRow (W5.heap.size) (bcells 64 (prd n (cmR n f g nn j) g))) := ⟨_, rfl⟩
                rw [← hwo] at qB0 qB1 qB2 qB3 qB4 qhb ⊢
                clear hwo
                clear B0 B1 B2 B3 hb
                have B0 := qB0
                have B1 := qB1
                have B2 := qB2
                have B3 := qB3
                have B4 := qB4
                have hb := qhb
                clear qB0 qB1 qB2 qB3 qB4 qhb
                obtain ⟨N2, hNN⟩ : ∃ n : Nat, n = W5.heap.size := ⟨_, rfl⟩
                rw [← hNN] at lt_B0 lt_B1 lt_B2 lt_B3 lhb B4 ⊢
                clear hNN
                have zN2_0 := lt_B0
                have zN2_1 := lt_B1
                have zN2_2 := lt_B2
                have zN2_3 := lt_B3
                have zN2 := lhb
                clear lt_B0 lt_B1 lt_B2 lt_B3 lhb
                try simp only [Act.put, List.setIfInBounds_toArray, List.set_cons_zero, List.set_cons_succ]
                have c1 := B4.cell (i := 0) (by omega)
                rw [← HPF.out.1] at c1
                have c2 := B0.cell (i := q) hq6
                rw [← HPF.out.2] at c2
                have f1 := B4.frozen 0
                go_region
                have lt_B0 := B0.lt
                have lt_B1 := B1.lt
                have lt_B2 := B2.lt
                have lt_B3 := B3.lt
                have lt_B4 := B4.lt
                have qB0 : Blk (W6.setCell ⟨N2, 0, none⟩ (.int .u8 (((P0 : Int) + (F0 : Int)) % (n : Int) % 256))).drew (w.heap.size) 64 25 (f) := (B0.setOther (by show (w.heap.size) ≠ (N2); omega)).drew
                have qB1 : Blk (W6.setCell ⟨N2, 0, none⟩ (.int .u8 (((P0 : Int) + (F0 : Int)) % (n : Int) % 256))).drew (w.heap.size + 1) 64 25 (g) := (B1.setOther (by show (w.heap.size + 1) ≠ (N2); omega)).drew
                have qB2 : Blk (W6.setCell ⟨N2, 0, none⟩ (.int .u8 (((P0 : Int) + (F0 : Int)) % (n : Int) % 256))).drew (w.heap.size + 1 + 1) 64 25 (fun _ => 0) := (B2.setOther (by show (w.heap.size + 1 + 1) ≠ (N2); omega)).drew
                have qB3 : Blk (W6.setCell ⟨N2, 0, none⟩ (.int .u8 (((P0 : Int) + (F0 : Int)) % (n : Int) % 256))).drew (N1) 64 25 (cmR n f g nn j) := (B3.setOther (by show (N1) ≠ (N2); omega)).drew
                have qB4 : Blk (W6.setCell ⟨N2, 0, none⟩ (.int .u8 (((P0 : Int) + (F0 : Int)) % (n : Int) % 256))).drew (N2) 64 25 (cmR n f g nn (j + 1)) := ((B4.set (v := M0) (by rw [HW.out]; omega)).congr (fun i _ => by have := HU.out i; rw [HM.out, HPF.out.1, HPF.out.2]; exact this)).drew
                have qhb : Below w.heap.size w (W6.setCell ⟨N2, 0, none⟩ (.int .u8 (((P0 : Int) + (F0 : Int)) % (n : Int) % 256))).drew := (hb.setCell (by show w.heap.size ≤ (N2); omega) _).drew
                obtain ⟨W7, hwo⟩ : ∃ v : World, v = (W6.setCell ⟨N2, 0, none⟩ (.int .u8 (((P0 : Int) + (F0 : Int)) % (n : Int) % 256))).drew := ⟨_, rfl⟩
                rw [← hwo] at qB0 qB1 qB2 qB3 qB4 qhb ⊢
                clear hwo
                clear B0 B1 B2 B3 B4 hb
                have B0 := qB0
                have B1 := qB1
                have B2 := qB2
                have B3 := qB3
                have B4 := qB4
                have hb := qhb
                clear qB0 qB1 qB2 qB3 qB4 qhb
                try simp only [Act.put, List.setIfInBounds_toArray, List.set_cons_zero, List.set_cons_succ]
                clear c1 c2 f1
                go_upto_region 17 with (fail)
                have lt_B0 := B0.lt
                have lt_B1 := B1.lt
                have lt_B2 := B2.lt
                have lt_B3 := B3.lt
                have lt_B4 := B4.lt
                go_wp2_with (first | rw [← zero64] | (refine wpList_load_any rfl 25 (.tmp 13) rfl _ rfl 64 25 _ (B4) _ Try.underlying25 rfl Try.size25 ?_) | (refine wpList_store_blk rfl 25 (.tmp 11) (.tmp 74) rfl _ 64 (cmR n f g nn (j + 1)) rfl rfl 25 _ (B3) Try.size25 ?_; try simp only [Act.put]))
                have qB0 : Blk (W7.setRow (N1) (bcells 64 (cmR n f g nn (j + 1)))) (w.heap.size) 64 25 (f) := (B0.rowOther (by omega))
                have qB1 : Blk (W7.setRow (N1) (bcells 64 (cmR n f g nn (j + 1)))) (w.heap.size + 1) 64 25 (g) := (B1.rowOther (by omega))
                have qB2 : Blk (W7.setRow (N1) (bcells 64 (cmR n f g nn (j + 1)))) (w.heap.size + 1 + 1) 64 25 (fun _ => 0) := (B2.rowOther (by omega))
                have qB3 : Blk (W7.setRow (N1) (bcells 64 (cmR n f g nn (j + 1)))) (N1) 64 25 (cmR n f g nn (j + 1)) := (B3.row (cmR n f g nn (j + 1)))
                have qB4 : Blk (W7.setRow (N1) (bcells 64 (cmR n f g nn (j + 1)))) (N2) 64 25 (cmR n f g nn (j + 1)) := (B4.rowOther (by omega))
                have qhb : Below w.heap.size w (W7.setRow (N1) (bcells 64 (cmR n f g nn (j + 1)))) := (below_row hb (by omega) _)
                obtain ⟨W8, hwo⟩ : ∃ v : World, v = (W7.setRow (N1) (bcells 64 (cmR n f g nn (j + 1)))) := ⟨_, rfl⟩
                rw [← hwo] at qB0 qB1 qB2 qB3 qB4 qhb ⊢
                clear hwo
                clear B0 B1 B2 B3 B4 hb
                have B0 := qB0
                have B1 := qB1
                have B2 := qB2
                have B3 := qB3
                have B4 := qB4
                have hb := qhb
                clear qB0 qB1 qB2 qB3 qB4 qhb
                try simp only [Act.put, List.setIfInBounds_toArray, List.set_cons_zero, List.set_cons_succ]
                go_roundw
                case rel => exact ⟨q, j + 1, Lib.hid (by have := hqj.out; omega), rfl, hb, B0, B1, B2, B3⟩
                case measure => simp [intOf] <;> omega
        · have HV := Lib.hid (cmV_lim hc hlim)
          have hlim2 : 63 < deg f * deg g := by omega
          rw [hc]
          clear hc
          go_upto_region 4 with (fail)
          have lt_B0 : (w.heap.size) < W2.heap.size := B0.lt
          have lt_B1 : (w.heap.size + 1) < W2.heap.size := B1.lt
          have lt_B2 : (w.heap.size + 1 + 1) < W2.heap.size := B2.lt
          have hbase : w.heap.size ≤ W2.heap.size := hb.size
          refine wp_region_steps0 Try.mixed (by kernel_rfl) (by kernel_rfl) (fun v => by (simp only [frL, Act.put, List.setIfInBounds_toArray, List.set_cons_zero, List.set_cons_succ, Nat.reduceAdd, Nat.zero_add]; exact rfl))
            (fun L v W3 => Below w.heap.size w W3 ∧ W2.heap.size ≤ W3.heap.size ∧ Blk W3 (w.heap.size) 64 25 (f) ∧ Blk W3 (w.heap.size + 1) 64 25 (g) ∧ Blk W3 (w.heap.size + 1 + 1) 64 25 (fun _ => 0) ∧ (L 0 = true → v 0 = (.agg (bcells 64 (f)))) ∧ (L 1 = true → v 1 = (.int .i64 (deg f))) ∧ (L 2 = true → v 2 = (.agg (bcells 64 (g)))) ∧ (L 3 = true → v 3 = (.int .i64 (deg g))) ∧ (L 4 = true → v 4 = (.int .i64 (deg f))) ∧ (L 5 = true → v 5 = (.int .i64 (deg g)))) ?_ ?_ ?_
          · intro v hv0
            exact ⟨hb.drew, Nat.le_refl _, B0.drew, B1.drew, B2.drew, (fun h => by cases h), (fun h => by cases h), (fun h => by cases h), (fun h => by cases h), (fun h => by cases h), (fun h => by cases h)⟩
          · refine (.cons rfl ?_ (.cons rfl ?_ (.cons rfl ?_ (.cons rfl ?_ (.cons rfl ?_ (.cons rfl ?_ (.nil _)))))))
            · intro L v W3 hd hn ⟨hB, hz, s0, s1, s2, h0, h1, h2, h3, h4, h5⟩ K hK
              refine wp_load_any 25 _ rfl _ rfl 64 25 _ s0 _ Try.underlying25 rfl Try.size25 ?_
              exact hK _ _ _ rfl ⟨hB, hz, s0, s1, s2, (fun _ => rfl), h1, h2, h3, h4, h5⟩
            · intro L v W3 hd hn ⟨hB, hz, s0, s1, s2, h0, h1, h2, h3, h4, h5⟩ K hK
              have e0 := h0 (hd ⟨0, .data⟩ (by simp) rfl)
              go_wp2_with (go_at_call 151; refine (l01Deg_any f _).mono ?_; rintro e wy ⟨rfl, hy⟩)
              exact hK _ (.int .i64 (deg f)) _ (by simp only [Act.put, List.setIfInBounds_toArray, List.set_cons_zero, List.set_cons_succ, e0]) ⟨hB.trans (hy.mono hB.size), (Nat.le_trans hz hy.size), (s0).below hy (s0).lt, (s1).below hy (s1).lt, (s2).below hy (s2).lt, h0, (fun _ => rfl), h2, h3, h4, h5⟩
            · intro L v W3 hd hn ⟨hB, hz, s0, s1, s2, h0, h1, h2, h3, h4, h5⟩ K hK
              refine wp_load_any 25 _ rfl _ rfl 64 25 _ s1 _ Try.underlying25 rfl Try.size25 ?_
              exact hK _ _ _ rfl ⟨hB, hz, s0, s1, s2, h0, h1, (fun _ => rfl), h3, h4, h5⟩
            · intro L v W3 hd hn ⟨hB, hz, s0, s1, s2, h0, h1, h2, h3, h4, h5⟩ K hK
              have e2 := h2 (hd ⟨2, .data⟩ (by simp) rfl)
              go_wp2_with (go_at_call 151; refine (l01Deg_any g _).mono ?_; rintro e wy ⟨rfl, hy⟩)
              exact hK _ (.int .i64 (deg g)) _ (by simp only [Act.put, List.setIfInBounds_toArray, List.set_cons_zero, List.set_cons_succ, e2]) ⟨hB.trans (hy.mono hB.size), (Nat.le_trans hz hy.size), (s0).below hy (s0).lt, (s1).below hy (s1).lt, (s2).below hy (s2).lt, h0, h1, h2, (fun _ => rfl), h4, h5⟩
            · intro L v W3 hd hn ⟨hB, hz, s0, s1, s2, h0, h1, h2, h3, h4, h5⟩ K hK
              have e1 := h1 (hd ⟨1, .data⟩ (by simp) rfl)
              go_wp2_with fail
              exact hK _ (.int .i64 (deg f)) _ (by simp only [Act.put, List.setIfInBounds_toArray, List.set_cons_zero, List.set_cons_succ, e1]) ⟨hB, hz, s0, s1, s2, h0, h1, h2, h3, (fun _ => rfl), h5⟩
            · intro L v W3 hd hn ⟨hB, hz, s0, s1, s2, h0, h1, h2, h3, h4, h5⟩ K hK
              have e3 := h3 (hd ⟨3, .data⟩ (by simp) rfl)
              go_wp2_with fail
              exact hK _ (.int .i64 (deg g)) _ (by simp only [Act.put, List.setIfInBounds_toArray, List.set_cons_zero, List.set_cons_succ, e3]) ⟨hB, hz, s0, s1, s2, h0, h1, h2, h3, h4, (fun _ => rfl)⟩
          · intro L v W3 hL ⟨hB, hz, s0, s1, s2, h0, h1, h2, h3, h4, h5⟩
            have e0 := h0 (hL 0 (by decide))
            have e1 := h1 (hL 1 (by decide))
            have e2 := h2 (hL 2 (by decide))
            have e3 := h3 (hL 3 (by decide))
            have e4 := h4 (hL 4 (by decide))
            have e5 := h5 (hL 5 (by decide))
            clear hL h0 h1 h2 h3 h4 h5
            simp only [Exit.then, e0, e1, e2, e3, e4, e5]
            clear e0 e1 e2 e3 e4 e5
            clear B0
            have B0 := s0
            clear s0
            clear B1
            have B1 := s1
            clear s1
            clear B2
            have B2 := s2
            clear s2
            clear hb
            have hb := hB
            clear hB
            clear hbase hz lt_B0 lt_B1 lt_B2
            go_upto_region 7 with (fail)
            go_upto_region 9 with (fail)
            go_upto_region 10 with (fail)
            have lt_B0 := B0.lt
            have lt_B1 := B1.lt
            have lt_B2 := B2.lt
            go_wp2_with (first | rw [← zero64] | (refine wpList_store_blk rfl 25 (.tmp 6) (.tmp 48) rfl _ 64 (fun _ => 0) rfl rfl 25 _ (B2) Try.size25 ?_; try simp only [Act.put]; go_wp2_with fail))
            have qB0 : Blk (W3.setRow (w.heap.size + 1 + 1) (bcells 64 (fun _ => 0))) (w.heap.size) 64 25 (f) := (B0.rowOther (by omega))
            have qB1 : Blk (W3.setRow (w.heap.size + 1 + 1) (bcells 64 (fun _ => 0))) (w.heap.size + 1) 64 25 (g) := (B1.rowOther (by omega))
            have qB2 : Blk (W3.setRow (w.heap.size + 1 + 1) (bcells 64 (fun _ => 0))) (w.heap.size + 1 + 1) 64 25 (fun _ => 0) := (B2.row (fun _ => 0))
            have qhb : Below w.heap.size w (W3.setRow (w.heap.size + 1 + 1) (bcells 64 (fun _ => 0))) := (below_row hb (by omega) _)
            obtain ⟨W4, hwo⟩ : ∃ v : World, v = (W3.setRow (w.heap.size + 1 + 1) (bcells 64 (fun _ => 0))) := ⟨_, rfl⟩
            rw [← hwo] at qB0 qB1 qB2 qhb ⊢
            clear hwo
            clear B0 B1 B2 hb
            have B0 := qB0
            have B1 := qB1
            have B2 := qB2
            have hb := qhb
            clear qB0 qB1 qB2 qhb
            try simp only [Act.put, List.setIfInBounds_toArray, List.set_cons_zero, List.set_cons_succ]
            refine bodyPost_ret (results_bt rfl _ _ _ 64 25 5 _ rfl B2 Try.underlying25 Try.size25) rfl ⟨by first | (rw [HV.out]; rfl) | rw [HV.out], hb⟩
  · have HV := Lib.hid (cmV_bad hc)
    rw [hc]
    clear hc
    go_upto_region 3 with (fail)
    have lt_B0 := B0.lt
    have lt_B1 := B1.lt
    have lt_B2 := B2.lt
    go_wp2_with (first | rw [← zero64] | (refine wpList_store_blk rfl 25 (.tmp 6) (.tmp 22) rfl _ 64 (fun _ => 0) rfl rfl 25 _ (B2) Try.size25 ?_; try simp only [Act.put]; go_wp2_with fail))
    have qB0 : Blk (W2.setRow (w.heap.size + 1 + 1) (bcells 64 (fun _ => 0))) (w.heap.size) 64 25 (f) := (B0.rowOther (by omega))
    have qB1 : Blk (W2.setRow (w.heap.size + 1 + 1) (bcells 64 (fun _ => 0))) (w.heap.size + 1) 64 25 (g) := (B1.rowOther (by omega))
    have qB2 : Blk (W2.setRow (w.heap.size + 1 + 1) (bcells 64 (fun _ => 0))) (w.heap.size + 1 + 1) 64 25 (fun _ => 0) := (B2.row (fun _ => 0))
    have qhb : Below w.heap.size w (W2.setRow (w.heap.size + 1 + 1) (bcells 64 (fun _ => 0))) := (below_row hb (by omega) _)
    obtain ⟨W3, hwo⟩ : ∃ v : World, v = (W2.setRow (w.heap.size + 1 + 1) (bcells 64 (fun _ => 0))) := ⟨_, rfl⟩
    rw [← hwo] at qB0 qB1 qB2 qhb ⊢
    clear hwo
    clear B0 B1 B2 hb
    have B0 := qB0
    have B1 := qB1
    have B2 := qB2
    have hb := qhb
    clear qB0 qB1 qB2 qhb
    try simp only [Act.put, List.setIfInBounds_toArray, List.set_cons_zero, List.set_cons_succ]
    refine bodyPost_ret (results_bt rfl _ _ _ 64 25 5 _ rfl B2 Try.underlying25 Try.size25) rfl ⟨by first | (rw [HV.out]; rfl) | rw [HV.out], hb⟩
end Go.Proofs.Ytkaaffccklkafaa
