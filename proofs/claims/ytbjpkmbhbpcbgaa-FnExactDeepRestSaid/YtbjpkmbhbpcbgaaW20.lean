/-
  Walks: the model's search for a common divisor.
-/
import Derived.Test.YtbjpkmbhbpcbgaaW19
namespace Go.Proofs.Ytbjpkmbhbpcbgaa
open Go.RowKit
set_option linter.unusedVariables false
set_option linter.unusedSimpArgs false
attribute [local irreducible] deg invN dS qS stp stpr quoP resP oneP
set_option maxRecDepth 100000 in
set_option maxHeartbeats 3000000 in
theorem l01Bezout_any (p : Nat) (A B : Nat → Nat) (w : World) (hp : p = 2 ∨ p = 3 ∨ p = 5 ∨ p = 7) (hA : ∀ k, k < 64 → A k < p) (hB : ∀ k, k < 64 → B k < p) (hd : 0 ≤ deg A ∨ 0 ≤ deg B) :
    Calls Try.prog 181 #[.int .i64 (p : Int), .agg (bcells 64 A), .agg (bcells 64 B)] w fun e w' => e = .returned (.tuple #[.agg (bcells 64 (bzD p A B)), .agg (bcells 64 (bzU p A B)), .agg (bcells 64 (bzW p A B))]) ∧ Below w.heap.size w w' := by
  have p2 : 2 ≤ p := by omega
  have p7 : p ≤ 7 := by omega
  have p0 : 0 < p := by omega
  have HI0 := Lib.hid (bzI_start p2 hA hB hd)
  clear hA hB hd
  go_enter Try.func181, Try.ntmps181
  go_upto_region 1 with (fail)
  rw [← zero64]
  obtain ⟨wo, hwo⟩ : ∃ wo : World, wo = (((((w.alloc (.cells (bcells 64 A) 23)).alloc (.cells (bcells 64 B) 23)).alloc (.cells (bcells 64 fun _ => 0) 23)).alloc (.cells (bcells 64 fun _ => 0) 23)).alloc (.cells (bcells 64 fun _ => 0) 23)) := ⟨_, rfl⟩
  have b0 : Blk wo (w.heap.size) 64 23 A := by subst hwo; have := (((((Blk.new w 64 23 A).alloc (.cells (bcells 64 B) 23)).alloc (.cells (bcells 64 fun _ => 0) 23)).alloc (.cells (bcells 64 fun _ => 0) 23)).alloc (.cells (bcells 64 fun _ => 0) 23)); simpa using this
  have b1 : Blk wo (w.heap.size + 1) 64 23 B := by subst hwo; have := ((((Blk.new (w.alloc (.cells (bcells 64 A) 23)) 64 23 B).alloc (.cells (bcells 64 fun _ => 0) 23)).alloc (.cells (bcells 64 fun _ => 0) 23)).alloc (.cells (bcells 64 fun _ => 0) 23)); simpa using this
  have b2 : Blk wo (w.heap.size + 1 + 1) 64 23 (fun _ => 0) := by subst hwo; have := (((Blk.new ((w.alloc (.cells (bcells 64 A) 23)).alloc (.cells (bcells 64 B) 23)) 64 23 (fun _ => 0)).alloc (.cells (bcells 64 fun _ => 0) 23)).alloc (.cells (bcells 64 fun _ => 0) 23)); simpa using this
  have b3 : Blk wo (w.heap.size + 1 + 1 + 1) 64 23 (fun _ => 0) := by subst hwo; have := ((Blk.new (((w.alloc (.cells (bcells 64 A) 23)).alloc (.cells (bcells 64 B) 23)).alloc (.cells (bcells 64 fun _ => 0) 23)) 64 23 (fun _ => 0)).alloc (.cells (bcells 64 fun _ => 0) 23)); simpa using this
  have b4 : Blk wo (w.heap.size + 1 + 1 + 1 + 1) 64 23 (fun _ => 0) := by subst hwo; have := (Blk.new ((((w.alloc (.cells (bcells 64 A) 23)).alloc (.cells (bcells 64 B) 23)).alloc (.cells (bcells 64 fun _ => 0) 23)).alloc (.cells (bcells 64 fun _ => 0) 23)) 64 23 (fun _ => 0)); simpa using this
  have hb : Below w.heap.size w wo := by subst hwo; exact ((((((Below.refl _ _).alloc (Nat.le_refl _) _).alloc (by simp) _).alloc (by simp; omega) _).alloc (by simp; omega) _).alloc (by simp; omega) _)
  rw [← hwo]
  clear hwo
  have ha : Below wo.heap.size wo wo := Below.refl _ _
  have HX := Lib.hid (fun W => new4 W oneP (fun _ => 0) (fun _ => 0) oneP)
  go_wp2_with (first | (go_at_call 75; refine (acc (l01One_any _) (by assumption)).mono ?_; rintro e w1 ⟨rfl, h1, ha⟩) | (rw [← zero64]; refine wpList_store_blk rfl 23 (.tmp 9) (.tmp 22) rfl _ 64 oneP rfl rfl 23 _ (HX.out w1).1 Try.size23 ?_) | (refine wpList_store_blk rfl 23 (.tmp 10) (.tmp 23) rfl _ 64 (fun _ => 0) rfl rfl 23 _ (HX.out w1).2.1 Try.size23 ?_) | (refine wpList_store_blk rfl 23 (.tmp 11) (.tmp 24) rfl _ 64 (fun _ => 0) rfl rfl 23 _ (HX.out w1).2.2.1 Try.size23 ?_) | (refine wpList_store_blk rfl 23 (.tmp 12) (.tmp 25) rfl _ 64 oneP rfl rfl 23 _ (HX.out w1).2.2.2.1 Try.size23 ?_))
  obtain ⟨_, _, _, _, f9, f10, f11, f12, hb4⟩ := HX.out w1
  obtain ⟨w4, hw4⟩ : ∃ w4 : World, w4 = ((((((((w1.alloc (.cells (bcells 64 fun _ => 0) 23)).alloc (.cells (bcells 64 fun _ => 0) 23)).alloc (.cells (bcells 64 fun _ => 0) 23)).alloc (.cells (bcells 64 fun _ => 0) 23)).setRow (w1.heap.size) (bcells 64 oneP)).setRow (w1.heap.size + 1) (bcells 64 (fun _ => 0))).setRow (w1.heap.size + 1 + 1) (bcells 64 (fun _ => 0))).setRow (w1.heap.size + 1 + 1 + 1) (bcells 64 oneP)) := ⟨_, rfl⟩
  rw [← hw4] at f9 f10 f11 f12 hb4 ⊢
  clear hw4 HX
  replace b0 := b0.below ha b0.lt
  replace b1 := b1.below ha b1.lt
  replace b2 := b2.below ha b2.lt
  replace b3 := b3.below ha b3.lt
  replace b4 := b4.below ha b4.lt
  have hl4 := b4.lt
  replace b0 := b0.below hb4 b0.lt
  replace b1 := b1.below hb4 b1.lt
  replace b2 := b2.below hb4 b2.lt
  replace b3 := b3.below hb4 b3.lt
  replace b4 := b4.below hb4 b4.lt
  replace hb := hb.trans (ha.mono hb.size)
  replace hb := hb.trans (hb4.mono hb.size)
  clear ha h1 hb4
  obtain ⟨N, hN⟩ : ∃ N, N = w1.heap.size := ⟨_, rfl⟩
  rw [← hN] at f9 f10 f11 f12 hl4 ⊢
  clear hN
  simp only [Act.put]
  go_loopw [27] (fun i wr => ∃ (k : Nat) (pa pb pu px pv py : Nat → Nat), bzV p A B = bzRun p k pa pb pu px pv py ∧ deg pb + 1 ≤ (k : Int) ∧ bzI p pa pb pu px pv py ∧ Below w.heap.size w wr ∧ Blk wr w.heap.size 64 23 pa ∧ Blk wr (w.heap.size + 1) 64 23 pb ∧ Blk wr (w.heap.size + 1 + 1) 64 23 (fun _ => 0) ∧ Blk wr (w.heap.size + 1 + 1 + 1) 64 23 (fun _ => 0) ∧ Blk wr (w.heap.size + 1 + 1 + 1 + 1) 64 23 (fun _ => 0) ∧ Blk wr N 64 23 pu ∧ Blk wr (N + 1) 64 23 px ∧ Blk wr (N + 1 + 1) 64 23 pv ∧ Blk wr (N + 1 + 1 + 1) 64 23 py) (fun _ wr => degAt wr (w.heap.size + 1))
  case atStart => exact ⟨65, A, B, oneP, fun _ => 0, fun _ => 0, oneP, rfl, by have := deg_bounds B; omega, HI0.out, hb, b0, b1, b2, b3, b4, f9, f10, f11, f12⟩
  case round =>
    clear hb b0 b1 b2 b3 b4 f9 f10 f11 f12
    obtain ⟨k, pa, pb, pu, px, pv, py, hrun, hk, hI, hb, b0, b1, b2, b3, b4, f9, f10, f11, f12⟩ := hrel
    have ⟨ia, ib, iu, ix, iv, iy, d1, d2, d3, d4, d5⟩ := hI
    by_cases hz : deg pb < 0
    · have hV := hrun.trans (bzRun_stop hz)
      obtain ⟨m, hm⟩ : ∃ m : Nat, deg pa = (m : Int) := ⟨(deg pa).toNat, by omega⟩
      obtain ⟨hm6, ham, _⟩ := deg_top hm
      obtain ⟨c, hc⟩ : ∃ c, c = bzC p A B := ⟨_, rfl⟩
      have hci : invN p (pa m) = c := by rw [hc]; unfold bzC; rw [hV]; show invN p (pa m) = invN p (pa (deg pa).toNat); rw [hm]; rfl
      have hcp : c < p := by rw [← hci]; exact (invF hp ham (ia m hm6)).2.1
      have HR := Lib.hid (show bzD p A B = sclP p pa c ∧ bzU p A B = sclP p pu c ∧ bzW p A B = sclP p pv c by
        unfold bzD bzU bzW; rw [← hc, hV]; exact ⟨rfl, rfl, rfl⟩)
      have HS := Lib.hid (show ∀ (f : Nat → Nat), (∀ i, i < 64 → f i < p) → ∀ W, Calls Try.prog 107 #[.int .i64 (p : Int), .agg (bcells 64 fun _ => 0), .agg (bcells 64 f), .int .i64 (c : Int)] W fun e w' => e = .returned (.agg (bcells 64 (sclP p f c))) ∧ Below W.heap.size W w' by
        intro f hf W
        have := l01Add_any p (fun _ => 0) f (c : Int) W p2 p7 (by omega) (by omega) (fun _ _ => p0) hf
        rwa [addK_scl] at this)
      have HM := Lib.hid hm
      have HC := Lib.hid hci
      have HIA := Lib.hid ia; have HIU := Lib.hid iu; have HIV := Lib.hid iv
      have ha : Below wr.heap.size wr wr := Below.refl _ _
      clear hV hrun hI hk ib ix iy d1 d2 d3 d4 d5 hc hci hm
      go_upto_region 14 with (first | (refine wpList_load_blk rfl 23 (.tmp 5) rfl _ rfl 64 23 _ (b1.below (by assumption) b1.lt) 5 Try.underlying23 Try.size23 ?_) | (refine wpList_load_blk rfl 23 (.tmp 4) rfl _ rfl 64 23 _ (b0.below (by assumption) b0.lt) 5 Try.underlying23 Try.size23 ?_) | (go_at_call 73; refine (acc (l01Deg_any _ _) (by assumption)).mono ?_; rintro e w5 ⟨rfl, h5, ha⟩; rw [HM.out]; have c0 := (b0.below ha b0.lt).cell (i := m) hm6) | (go_at_call 73; refine (acc (l01Deg_any _ _) (by assumption)).mono ?_; rintro e w5 ⟨rfl, h5, ha⟩) | (go_at_call 171; refine (l01Inverse_any p (pa m) _ hp ham (HIA.out m hm6)).mono ?_; rintro e w5 ⟨rfl, rfl⟩; rw [HC.out]))
      replace b0 := b0.below ha b0.lt
      replace b2 := b2.below ha b2.lt
      replace b3 := b3.below ha b3.lt
      replace b4 := b4.below ha b4.lt
      replace f9 := f9.below ha f9.lt
      replace f11 := f11.below ha f11.lt
      replace hb := hb.trans (ha.mono hb.size)
      clear c0 ha h5 b1 f10 f12
      have lt_b0 : (w.heap.size) < w5.heap.size := b0.lt
      have lt_f9 : (N) < w5.heap.size := f9.lt
      have lt_f11 : (N + 1 + 1) < w5.heap.size := f11.lt
      have lt_b2 : (w.heap.size + 1 + 1) < w5.heap.size := b2.lt
      have lt_b3 : (w.heap.size + 1 + 1 + 1) < w5.heap.size := b3.lt
      have lt_b4 : (w.heap.size + 1 + 1 + 1 + 1) < w5.heap.size := b4.lt
      have hbase : w.heap.size ≤ w5.heap.size := hb.size
      refine wp_region_steps0 Try.mixed (by kernel_rfl) (by kernel_rfl) (fun v => by (simp only [frL, Act.put, List.setIfInBounds_toArray, List.set_cons_zero, List.set_cons_succ, Nat.reduceAdd, Nat.zero_add]; exact rfl))
        (fun L v wx => Below w.heap.size w wx ∧ w5.heap.size ≤ wx.heap.size ∧ Blk wx (w.heap.size) 64 23 (pa) ∧ Blk wx (N) 64 23 (pu) ∧ Blk wx (N + 1 + 1) 64 23 (pv) ∧ (∃ g, Blk wx (w.heap.size + 1 + 1) 64 23 (g)) ∧ (L 15 = false → Blk wx (w.heap.size + 1 + 1) 64 23 (fun _ => 0)) ∧ (L 15 = true → Blk wx (w.heap.size + 1 + 1) 64 23 (sclP p pa c)) ∧ (∃ g, Blk wx (w.heap.size + 1 + 1 + 1) 64 23 (g)) ∧ (L 16 = false → Blk wx (w.heap.size + 1 + 1 + 1) 64 23 (fun _ => 0)) ∧ (L 16 = true → Blk wx (w.heap.size + 1 + 1 + 1) 64 23 (sclP p pu c)) ∧ (∃ g, Blk wx (w.heap.size + 1 + 1 + 1 + 1) 64 23 (g)) ∧ (L 17 = false → Blk wx (w.heap.size + 1 + 1 + 1 + 1) 64 23 (fun _ => 0)) ∧ (L 17 = true → Blk wx (w.heap.size + 1 + 1 + 1 + 1) 64 23 (sclP p pv c)) ∧ (L 0 = true → v 0 = (.int .i64 (p : Int))) ∧ (L 1 = true → v 1 = (.agg (bcells 64 (fun _ => 0)))) ∧ (L 2 = true → v 2 = (.agg (bcells 64 (pa)))) ∧ (L 3 = true → v 3 = (.int .i64 (c : Int))) ∧ (L 4 = true → v 4 = (.agg (bcells 64 (sclP p pa c)))) ∧ (L 5 = true → v 5 = (.int .i64 (p : Int))) ∧ (L 6 = true → v 6 = (.agg (bcells 64 (fun _ => 0)))) ∧ (L 7 = true → v 7 = (.agg (bcells 64 (pu)))) ∧ (L 8 = true → v 8 = (.int .i64 (c : Int))) ∧ (L 9 = true → v 9 = (.agg (bcells 64 (sclP p pu c)))) ∧ (L 10 = true → v 10 = (.int .i64 (p : Int))) ∧ (L 11 = true → v 11 = (.agg (bcells 64 (fun _ => 0)))) ∧ (L 12 = true → v 12 = (.agg (bcells 64 (pv)))) ∧ (L 13 = true → v 13 = (.int .i64 (c : Int))) ∧ (L 14 = true → v 14 = (.agg (bcells 64 (sclP p pv c))))) ?_ ?_ ?_
      · intro v hv0
        exact ⟨hb.drew, Nat.le_refl _, b0.drew, f9.drew, f11.drew, ⟨_, b2.drew⟩, (fun _ => b2.drew), (fun h => by cases h), ⟨_, b3.drew⟩, (fun _ => b3.drew), (fun h => by cases h), ⟨_, b4.drew⟩, (fun _ => b4.drew), (fun h => by cases h), (fun h => by cases h), (fun h => by cases h), (fun h => by cases h), (fun h => by cases h), (fun h => by cases h), (fun h => by cases h), (fun h => by cases h), (fun h => by cases h), (fun h => by cases h), (fun h => by cases h), (fun h => by cases h), (fun h => by cases h), (fun h => by cases h), (fun h => by cases h), (fun h => by cases h)⟩
      · refine (.cons rfl ?_ (.cons rfl ?_ (.cons rfl ?_ (.cons rfl ?_ (.cons rfl ?_ (.cons rfl ?_ (.cons rfl ?_ (.cons rfl ?_ (.cons rfl ?_ (.cons rfl ?_ (.cons rfl ?_ (.cons rfl ?_ (.cons rfl ?_ (.cons rfl ?_ (.cons rfl ?_ (.cons rfl ?_ (.cons rfl ?_ (.cons rfl ?_ (.nil _)))))))))))))))))))
        · intro L v wx hd hn ⟨hB, hz, s0, s1, s2, x3, q3, n3, x4, q4, n4, x5, q5, n5, h0, h1, h2, h3, h4, h5, h6, h7, h8, h9, h10, h11, h12, h13, h14⟩ K hK
          go_wp2_with fail
          exact hK _ (.int .i64 (p : Int)) _ (by simp only [Act.put, List.setIfInBounds_toArray, List.set_cons_zero, List.set_cons_succ ]) ⟨hB, hz, s0, s1, s2, x3, q3, n3, x4, q4, n4, x5, q5, n5, (fun _ => rfl), h1, h2, h3, h4, h5, h6, h7, h8, h9, h10, h11, h12, h13, h14⟩
        · intro L v wx hd hn ⟨hB, hz, s0, s1, s2, x3, q3, n3, x4, q4, n4, x5, q5, n5, h0, h1, h2, h3, h4, h5, h6, h7, h8, h9, h10, h11, h12, h13, h14⟩ K hK
          go_wp2_with fail
          rw [← zero64]
          exact hK _ (.agg (bcells 64 (fun _ => 0))) _ (by simp only [Act.put, List.setIfInBounds_toArray, List.set_cons_zero, List.set_cons_succ ]) ⟨hB, hz, s0, s1, s2, x3, q3, n3, x4, q4, n4, x5, q5, n5, h0, (fun _ => rfl), h2, h3, h4, h5, h6, h7, h8, h9, h10, h11, h12, h13, h14⟩
        · intro L v wx hd hn ⟨hB, hz, s0, s1, s2, x3, q3, n3, x4, q4, n4, x5, q5, n5, h0, h1, h2, h3, h4, h5, h6, h7, h8, h9, h10, h11, h12, h13, h14⟩ K hK
          refine wp_load_blk 23 _ rfl _ rfl 64 23 _ s0 _ Try.underlying23 Try.size23 ?_
          exact hK _ _ _ rfl ⟨hB, hz, s0, s1, s2, x3, q3, n3, x4, q4, n4, x5, q5, n5, h0, h1, (fun _ => rfl), h3, h4, h5, h6, h7, h8, h9, h10, h11, h12, h13, h14⟩
        · intro L v wx hd hn ⟨hB, hz, s0, s1, s2, x3, q3, n3, x4, q4, n4, x5, q5, n5, h0, h1, h2, h3, h4, h5, h6, h7, h8, h9, h10, h11, h12, h13, h14⟩ K hK
          go_wp2_with fail
          exact hK _ (.int .i64 (c : Int)) _ (by simp only [Act.put, List.setIfInBounds_toArray, List.set_cons_zero, List.set_cons_succ ]) ⟨hB, hz, s0, s1, s2, x3, q3, n3, x4, q4, n4, x5, q5, n5, h0, h1, h2, (fun _ => rfl), h4, h5, h6, h7, h8, h9, h10, h11, h12, h13, h14⟩
        · intro L v wx hd hn ⟨hB, hz, s0, s1, s2, x3, q3, n3, x4, q4, n4, x5, q5, n5, h0, h1, h2, h3, h4, h5, h6, h7, h8, h9, h10, h11, h12, h13, h14⟩ K hK
          have e0 := h0 (hd ⟨0, .data⟩ (by simp) rfl)
          have e1 := h1 (hd ⟨1, .data⟩ (by simp) rfl)
          have e2 := h2 (hd ⟨2, .data⟩ (by simp) rfl)
          have e3 := h3 (hd ⟨3, .data⟩ (by simp) rfl)
          go_wp2_with (go_at_call 107; refine (HS.out pa HIA.out _).mono ?_; rintro e wy ⟨rfl, hy⟩)
          exact hK _ (.agg (bcells 64 (sclP p pa c))) _ (by simp only [Act.put, List.setIfInBounds_toArray, List.set_cons_zero, List.set_cons_succ, e0, e1, e2, e3]) ⟨hB.trans (hy.mono hB.size), (Nat.le_trans hz hy.size), (s0).below hy (s0).lt, (s1).below hy (s1).lt, (s2).below hy (s2).lt, (let ⟨g, h⟩ := x3; ⟨g, (h).below hy (h).lt⟩), (fun h => (q3 h).below hy (q3 h).lt), (fun h => (n3 h).below hy (n3 h).lt), (let ⟨g, h⟩ := x4; ⟨g, (h).below hy (h).lt⟩), (fun h => (q4 h).below hy (q4 h).lt), (fun h => (n4 h).below hy (n4 h).lt), (let ⟨g, h⟩ := x5; ⟨g, (h).below hy (h).lt⟩), (fun h => (q5 h).below hy (q5 h).lt), (fun h => (n5 h).below hy (n5 h).lt), h0, h1, h2, h3, (fun _ => rfl), h5, h6, h7, h8, h9, h10, h11, h12, h13, h14⟩
        · intro L v wx hd hn ⟨hB, hz, s0, s1, s2, x3, q3, n3, x4, q4, n4, x5, q5, n5, h0, h1, h2, h3, h4, h5, h6, h7, h8, h9, h10, h11, h12, h13, h14⟩ K hK
          go_wp2_with fail
          exact hK _ (.int .i64 (p : Int)) _ (by simp only [Act.put, List.setIfInBounds_toArray, List.set_cons_zero, List.set_cons_succ ]) ⟨hB, hz, s0, s1, s2, x3, q3, n3, x4, q4, n4, x5, q5, n5, h0, h1, h2, h3, h4, (fun _ => rfl), h6, h7, h8, h9, h10, h11, h12, h13, h14⟩
        · intro L v wx hd hn ⟨hB, hz, s0, s1, s2, x3, q3, n3, x4, q4, n4, x5, q5, n5, h0, h1, h2, h3, h4, h5, h6, h7, h8, h9, h10, h11, h12, h13, h14⟩ K hK
          go_wp2_with fail
          rw [← zero64]
          exact hK _ (.agg (bcells 64 (fun _ => 0))) _ (by simp only [Act.put, List.setIfInBounds_toArray, List.set_cons_zero, List.set_cons_succ ]) ⟨hB, hz, s0, s1, s2, x3, q3, n3, x4, q4, n4, x5, q5, n5, h0, h1, h2, h3, h4, h5, (fun _ => rfl), h7, h8, h9, h10, h11, h12, h13, h14⟩
        · intro L v wx hd hn ⟨hB, hz, s0, s1, s2, x3, q3, n3, x4, q4, n4, x5, q5, n5, h0, h1, h2, h3, h4, h5, h6, h7, h8, h9, h10, h11, h12, h13, h14⟩ K hK
          refine wp_load_blk 23 _ rfl _ rfl 64 23 _ s1 _ Try.underlying23 Try.size23 ?_
          exact hK _ _ _ rfl ⟨hB, hz, s0, s1, s2, x3, q3, n3, x4, q4, n4, x5, q5, n5, h0, h1, h2, h3, h4, h5, h6, (fun _ => rfl), h8, h9, h10, h11, h12, h13, h14⟩
        · intro L v wx hd hn ⟨hB, hz, s0, s1, s2, x3, q3, n3, x4, q4, n4, x5, q5, n5, h0, h1, h2, h3, h4, h5, h6, h7, h8, h9, h10, h11, h12, h13, h14⟩ K hK
          go_wp2_with fail
          exact hK _ (.int .i64 (c : Int)) _ (by simp only [Act.put, List.setIfInBounds_toArray, List.set_cons_zero, List.set_cons_succ ]) ⟨hB, hz, s0, s1, s2, x3, q3, n3, x4, q4, n4, x5, q5, n5, h0, h1, h2, h3, h4, h5, h6, h7, (fun _ => rfl), h9, h10, h11, h12, h13, h14⟩
        · intro L v wx hd hn ⟨hB, hz, s0, s1, s2, x3, q3, n3, x4, q4, n4, x5, q5, n5, h0, h1, h2, h3, h4, h5, h6, h7, h8, h9, h10, h11, h12, h13, h14⟩ K hK
          have e5 := h5 (hd ⟨5, .data⟩ (by simp) rfl)
          have e6 := h6 (hd ⟨6, .data⟩ (by simp) rfl)
          have e7 := h7 (hd ⟨7, .data⟩ (by simp) rfl)
          have e8 := h8 (hd ⟨8, .data⟩ (by simp) rfl)
          go_wp2_with (go_at_call 107; refine (HS.out pu HIU.out _).mono ?_; rintro e wy ⟨rfl, hy⟩)
          exact hK _ (.agg (bcells 64 (sclP p pu c))) _ (by simp only [Act.put, List.setIfInBounds_toArray, List.set_cons_zero, List.set_cons_succ, e5, e6, e7, e8]) ⟨hB.trans (hy.mono hB.size), (Nat.le_trans hz hy.size), (s0).below hy (s0).lt, (s1).below hy (s1).lt, (s2).below hy (s2).lt, (let ⟨g, h⟩ := x3; ⟨g, (h).below hy (h).lt⟩), (fun h => (q3 h).below hy (q3 h).lt), (fun h => (n3 h).below hy (n3 h).lt), (let ⟨g, h⟩ := x4; ⟨g, (h).below hy (h).lt⟩), (fun h => (q4 h).below hy (q4 h).lt), (fun h => (n4 h).below hy (n4 h).lt), (let ⟨g, h⟩ := x5; ⟨g, (h).below hy (h).lt⟩), (fun h => (q5 h).below hy (q5 h).lt), (fun h => (n5 h).below hy (n5 h).lt), h0, h1, h2, h3, h4, h5, h6, h7, h8, (fun _ => rfl), h10, h11, h12, h13, h14⟩
        · intro L v wx hd hn ⟨hB, hz, s0, s1, s2, x3, q3, n3, x4, q4, n4, x5, q5, n5, h0, h1, h2, h3, h4, h5, h6, h7, h8, h9, h10, h11, h12, h13, h14⟩ K hK
          go_wp2_with fail
          exact hK _ (.int .i64 (p : Int)) _ (by simp only [Act.put, List.setIfInBounds_toArray, List.set_cons_zero, List.set_cons_succ ]) ⟨hB, hz, s0, s1, s2, x3, q3, n3, x4, q4, n4, x5, q5, n5, h0, h1, h2, h3, h4, h5, h6, h7, h8, h9, (fun _ => rfl), h11, h12, h13, h14⟩
        · intro L v wx hd hn ⟨hB, hz, s0, s1, s2, x3, q3, n3, x4, q4, n4, x5, q5, n5, h0, h1, h2, h3, h4, h5, h6, h7, h8, h9, h10, h11, h12, h13, h14⟩ K hK
          go_wp2_with fail
          rw [← zero64]
          exact hK _ (.agg (bcells 64 (fun _ => 0))) _ (by simp only [Act.put, List.setIfInBounds_toArray, List.set_cons_zero, List.set_cons_succ ]) ⟨hB, hz, s0, s1, s2, x3, q3, n3, x4, q4, n4, x5, q5, n5, h0, h1, h2, h3, h4, h5, h6, h7, h8, h9, h10, (fun _ => rfl), h12, h13, h14⟩
        · intro L v wx hd hn ⟨hB, hz, s0, s1, s2, x3, q3, n3, x4, q4, n4, x5, q5, n5, h0, h1, h2, h3, h4, h5, h6, h7, h8, h9, h10, h11, h12, h13, h14⟩ K hK
          refine wp_load_blk 23 _ rfl _ rfl 64 23 _ s2 _ Try.underlying23 Try.size23 ?_
          exact hK _ _ _ rfl ⟨hB, hz, s0, s1, s2, x3, q3, n3, x4, q4, n4, x5, q5, n5, h0, h1, h2, h3, h4, h5, h6, h7, h8, h9, h10, h11, (fun _ => rfl), h13, h14⟩
        · intro L v wx hd hn ⟨hB, hz, s0, s1, s2, x3, q3, n3, x4, q4, n4, x5, q5, n5, h0, h1, h2, h3, h4, h5, h6, h7, h8, h9, h10, h11, h12, h13, h14⟩ K hK
          go_wp2_with fail
          exact hK _ (.int .i64 (c : Int)) _ (by simp only [Act.put, List.setIfInBounds_toArray, List.set_cons_zero, List.set_cons_succ ]) ⟨hB, hz, s0, s1, s2, x3, q3, n3, x4, q4, n4, x5, q5, n5, h0, h1, h2, h3, h4, h5, h6, h7, h8, h9, h10, h11, h12, (fun _ => rfl), h14⟩
        · intro L v wx hd hn ⟨hB, hz, s0, s1, s2, x3, q3, n3, x4, q4, n4, x5, q5, n5, h0, h1, h2, h3, h4, h5, h6, h7, h8, h9, h10, h11, h12, h13, h14⟩ K hK
          have e10 := h10 (hd ⟨10, .data⟩ (by simp) rfl)
          have e11 := h11 (hd ⟨11, .data⟩ (by simp) rfl)
          have e12 := h12 (hd ⟨12, .data⟩ (by simp) rfl)
          have e13 := h13 (hd ⟨13, .data⟩ (by simp) rfl)
          go_wp2_with (go_at_call 107; refine (HS.out pv HIV.out _).mono ?_; rintro e wy ⟨rfl, hy⟩)
          exact hK _ (.agg (bcells 64 (sclP p pv c))) _ (by simp only [Act.put, List.setIfInBounds_toArray, List.set_cons_zero, List.set_cons_succ, e10, e11, e12, e13]) ⟨hB.trans (hy.mono hB.size), (Nat.le_trans hz hy.size), (s0).below hy (s0).lt, (s1).below hy (s1).lt, (s2).below hy (s2).lt, (let ⟨g, h⟩ := x3; ⟨g, (h).below hy (h).lt⟩), (fun h => (q3 h).below hy (q3 h).lt), (fun h => (n3 h).below hy (n3 h).lt), (let ⟨g, h⟩ := x4; ⟨g, (h).below hy (h).lt⟩), (fun h => (q4 h).below hy (q4 h).lt), (fun h => (n4 h).below hy (n4 h).lt), (let ⟨g, h⟩ := x5; ⟨g, (h).below hy (h).lt⟩), (fun h => (q5 h).below hy (q5 h).lt), (fun h => (n5 h).below hy (n5 h).lt), h0, h1, h2, h3, h4, h5, h6, h7, h8, h9, h10, h11, h12, h13, (fun _ => rfl)⟩
        · intro L v wx hd hn ⟨hB, hz, s0, s1, s2, x3, q3, n3, x4, q4, n4, x5, q5, n5, h0, h1, h2, h3, h4, h5, h6, h7, h8, h9, h10, h11, h12, h13, h14⟩ K hK
          have e4 := h4 (hd ⟨4, .data⟩ (by simp) rfl)
          obtain ⟨gz, hk⟩ := x3
          refine wp_store_blk 23 _ _ rfl _ 64 (sclP p pa c) rfl e4 23 gz hk Try.size23 ?_
          exact hK _ undef _ rfl ⟨below_row hB (by omega) _, (by simpa [World.setRow] using hz), (s0).rowOther (by omega), (s1).rowOther (by omega), (s2).rowOther (by omega), ⟨_, hk.row _⟩, (fun h => absurd h (by simp [setL])), (fun _ => hk.row _), (let ⟨g, h⟩ := x4; ⟨g, (h).rowOther (by omega)⟩), (fun h => (q4 h).rowOther (by omega)), (fun h => (n4 h).rowOther (by omega)), (let ⟨g, h⟩ := x5; ⟨g, (h).rowOther (by omega)⟩), (fun h => (q5 h).rowOther (by omega)), (fun h => (n5 h).rowOther (by omega)), h0, h1, h2, h3, h4, h5, h6, h7, h8, h9, h10, h11, h12, h13, h14⟩
        · intro L v wx hd hn ⟨hB, hz, s0, s1, s2, x3, q3, n3, x4, q4, n4, x5, q5, n5, h0, h1, h2, h3, h4, h5, h6, h7, h8, h9, h10, h11, h12, h13, h14⟩ K hK
          have e9 := h9 (hd ⟨9, .data⟩ (by simp) rfl)
          obtain ⟨gz, hk⟩ := x4
          refine wp_store_blk 23 _ _ rfl _ 64 (sclP p pu c) rfl e9 23 gz hk Try.size23 ?_
          exact hK _ undef _ rfl ⟨below_row hB (by omega) _, (by simpa [World.setRow] using hz), (s0).rowOther (by omega), (s1).rowOther (by omega), (s2).rowOther (by omega), (let ⟨g, h⟩ := x3; ⟨g, (h).rowOther (by omega)⟩), (fun h => (q3 h).rowOther (by omega)), (fun h => (n3 h).rowOther (by omega)), ⟨_, hk.row _⟩, (fun h => absurd h (by simp [setL])), (fun _ => hk.row _), (let ⟨g, h⟩ := x5; ⟨g, (h).rowOther (by omega)⟩), (fun h => (q5 h).rowOther (by omega)), (fun h => (n5 h).rowOther (by omega)), h0, h1, h2, h3, h4, h5, h6, h7, h8, h9, h10, h11, h12, h13, h14⟩
        · intro L v wx hd hn ⟨hB, hz, s0, s1, s2, x3, q3, n3, x4, q4, n4, x5, q5, n5, h0, h1, h2, h3, h4, h5, h6, h7, h8, h9, h10, h11, h12, h13, h14⟩ K hK
          have e14 := h14 (hd ⟨14, .data⟩ (by simp) rfl)
          obtain ⟨gz, hk⟩ := x5
          refine wp_store_blk 23 _ _ rfl _ 64 (sclP p pv c) rfl e14 23 gz hk Try.size23 ?_
          exact hK _ undef _ rfl ⟨below_row hB (by omega) _, (by simpa [World.setRow] using hz), (s0).rowOther (by omega), (s1).rowOther (by omega), (s2).rowOther (by omega), (let ⟨g, h⟩ := x3; ⟨g, (h).rowOther (by omega)⟩), (fun h => (q3 h).rowOther (by omega)), (fun h => (n3 h).rowOther (by omega)), (let ⟨g, h⟩ := x4; ⟨g, (h).rowOther (by omega)⟩), (fun h => (q4 h).rowOther (by omega)), (fun h => (n4 h).rowOther (by omega)), ⟨_, hk.row _⟩, (fun h => absurd h (by simp [setL])), (fun _ => hk.row _), h0, h1, h2, h3, h4, h5, h6, h7, h8, h9, h10, h11, h12, h13, h14⟩
      · intro L v wx hL ⟨hB, hz, s0, s1, s2, x3, q3, n3, x4, q4, n4, x5, q5, n5, h0, h1, h2, h3, h4, h5, h6, h7, h8, h9, h10, h11, h12, h13, h14⟩
        have r3 := n3 (hL 15 (by decide))
        have r4 := n4 (hL 16 (by decide))
        have r5 := n5 (hL 17 (by decide))
        have e0 := h0 (hL 0 (by decide))
        have e1 := h1 (hL 1 (by decide))
        have e2 := h2 (hL 2 (by decide))
        have e3 := h3 (hL 3 (by decide))
        have e4 := h4 (hL 4 (by decide))
        have e5 := h5 (hL 5 (by decide))
        have e6 := h6 (hL 6 (by decide))
        have e7 := h7 (hL 7 (by decide))
        have e8 := h8 (hL 8 (by decide))
        have e9 := h9 (hL 9 (by decide))
        have e10 := h10 (hL 10 (by decide))
        have e11 := h11 (hL 11 (by decide))
        have e12 := h12 (hL 12 (by decide))
        have e13 := h13 (hL 13 (by decide))
        have e14 := h14 (hL 14 (by decide))
        clear hL x3 q3 n3 x4 q4 n4 x5 q5 n5 h0 h1 h2 h3 h4 h5 h6 h7 h8 h9 h10 h11 h12 h13 h14
        simp only [Exit.then, e0, e1, e2, e3, e4, e5, e6, e7, e8, e9, e10, e11, e12, e13, e14]
        clear e0 e1 e2 e3 e4 e5 e6 e7 e8 e9 e10 e11 e12 e13 e14
        go_wp2_with fail
        refine bodyPost_ret (results_bbb rfl _ _ _ 64 23 5 _ _ 64 23 5 _ _ 64 23 5 _ rfl r3 Try.underlying23 Try.size23 rfl r4 Try.underlying23 Try.size23 rfl r5 Try.underlying23 Try.size23) rfl ⟨by rw [HR.out.1, HR.out.2.1, HR.out.2.2], hB⟩
    · obtain ⟨k, rfl⟩ : ∃ j, k = j + 1 := ⟨k - 1, by omega⟩
      obtain ⟨hI', hdr, hdx, hdy⟩ := bzI_next hp hI hz
      have HI' := Lib.hid hI'
      have HRN := Lib.hid (hrun.trans (bzRun_go hz))
      have HDR := Lib.hid hdr
      have HT1 := Lib.hid (show tmV p (quoP p pa pb) px = ((prd p (quoP p pa pb) px), true) from if_pos hdx)
      have HT2 := Lib.hid (show tmV p (quoP p pa pb) py = ((prd p (quoP p pa pb) py), true) from if_pos hdy)
      have HL := Lib.hid (fun W => l01Divide_any p pa pb W hp ia ib (by omega))
      have HIX := Lib.hid ix; have HIY := Lib.hid iy; have HIU := Lib.hid iu; have HIV := Lib.hid iv
      have HSB := Lib.hid (show ∀ (f g : Nat → Nat), (∀ i, i < 64 → f i < p) → (∀ i, i < 64 → g i < p) → ∀ W, Calls Try.prog 107 #[.int .i64 (p : Int), .agg (bcells 64 f), .agg (bcells 64 g), .int .i64 (-1)] W fun e w' => e = .returned (.agg (bcells 64 (subP p f g))) ∧ Below W.heap.size W w' by
        intro f g hf hg W
        have := l01Add_any p f g (-1) W p2 p7 (by omega) (by omega) hf hg
        rwa [bcells_congr (g := subP p f g) (fun i hi => addK_neg p0 hg hi)] at this)
      have HY := Lib.hid (fun W => new2 W (quoP p pa pb) (resP p pa pb))
      have ha : Below wr.heap.size wr wr := Below.refl _ _
      clear hrun hI hI' hdr hdx hdy ia ib ix iy iu iv d1 d2 d3 d4 d5
      go_upto_region 4 with (first | (refine wpList_load_blk rfl 23 (.tmp 5) rfl _ rfl 64 23 _ (b1.below (by assumption) b1.lt) 5 Try.underlying23 Try.size23 ?_) | (refine wpList_load_blk rfl 23 (.tmp 4) rfl _ rfl 64 23 _ (b0.below (by assumption) b0.lt) 5 Try.underlying23 Try.size23 ?_) | (go_at_call 73; refine (acc (l01Deg_any _ _) (by assumption)).mono ?_; rintro e w1 ⟨rfl, h1, ha⟩) | (go_at_call 122; refine (acc (HL.out _) (by assumption)).mono ?_; rintro e w1 ⟨rfl, h1, ha⟩) | (rw [← zero64]; refine wpList_store_blk rfl 23 (.tmp 13) (.tmp 34) rfl _ 64 (quoP p pa pb) rfl rfl 23 _ (HY.out w1).1 Try.size23 ?_) | (refine wpList_store_blk rfl 23 (.tmp 14) (.tmp 35) rfl _ 64 (resP p pa pb) rfl rfl 23 _ (HY.out w1).2.1 Try.size23 ?_))
      obtain ⟨_, _, f13, f14, hb5⟩ := HY.out w1
      have zM := ha.size
      replace ha := ha.trans (hb5.mono ha.size)
      obtain ⟨w5, hw5⟩ : ∃ w5 : World, w5 = ((((w1.alloc (.cells (bcells 64 fun _ => 0) 23)).alloc (.cells (bcells 64 fun _ => 0) 23)).setRow (w1.heap.size) (bcells 64 (quoP p pa pb))).setRow (w1.heap.size + 1) (bcells 64 (resP p pa pb))) := ⟨_, rfl⟩
      rw [← hw5] at f13 f14 hb5 ha ⊢
      obtain ⟨M, hM⟩ : ∃ M, M = w1.heap.size := ⟨_, rfl⟩
      rw [← hM] at f13 f14 zM ⊢
      clear hw5 hM hb5 h1 HY HL
      go_upto_region 5 with (first | (refine wpList_load_blk rfl 23 (.tmp 13) rfl _ rfl 64 23 _ f13 5 Try.underlying23 Try.size23 ?_) | (refine wpList_load_blk rfl 23 (.tmp 10) rfl _ rfl 64 23 _ (f10.below ha f10.lt) 5 Try.underlying23 Try.size23 ?_) | (go_at_call 76; refine (l01Times_any p (quoP p pa pb) px _ p2 p7 (fun i _ => quoP_lt p0 i) HIX.out).mono ?_; rw [HT1.out]; rintro e w6 ⟨rfl, h6⟩) | refine wpList_store_new rfl 23 _ _ rfl _ 23 64 ((prd p (quoP p pa pb) px)) rfl rfl rfl Try.size23 ?_)
      have f15 := Blk.new w6 64 23 (prd p (quoP p pa pb) px)
      replace f13 := (f13.below h6 f13.lt).alloc (.cells (bcells 64 (prd p (quoP p pa pb) px)) 23)
      replace f14 := (f14.below h6 f14.lt).alloc (.cells (bcells 64 (prd p (quoP p pa pb) px)) 23)
      replace ha := ha.trans (h6.mono ha.size)
      replace ha := ha.alloc ha.size (.cells (bcells 64 (prd p (quoP p pa pb) px)) 23)
      obtain ⟨w7, hw7⟩ : ∃ w7 : World, w7 = w6.alloc (.cells (bcells 64 (prd p (quoP p pa pb) px)) 23) := ⟨_, rfl⟩
      rw [← hw7] at f13 f14 f15 ha ⊢
      obtain ⟨M2, hM2⟩ : ∃ M, M = w6.heap.size := ⟨_, rfl⟩
      rw [← hM2] at f15 ⊢
      clear hw7 hM2 h6
      go_upto_region 6 with (first | (refine wpList_load_blk rfl 23 (.tmp 13) rfl _ rfl 64 23 _ f13 5 Try.underlying23 Try.size23 ?_) | (refine wpList_load_blk rfl 23 (.tmp 12) rfl _ rfl 64 23 _ (f12.below ha f12.lt) 5 Try.underlying23 Try.size23 ?_) | (go_at_call 76; refine (l01Times_any p (quoP p pa pb) py _ p2 p7 (fun i _ => quoP_lt p0 i) HIY.out).mono ?_; rw [HT2.out]; rintro e w8 ⟨rfl, h8⟩) | refine wpList_store_new rfl 23 _ _ rfl _ 23 64 ((prd p (quoP p pa pb) py)) rfl rfl rfl Try.size23 ?_)
      have f17 := Blk.new w8 64 23 (prd p (quoP p pa pb) py)
      replace f14 := (f14.below h8 f14.lt).alloc (.cells (bcells 64 (prd p (quoP p pa pb) py)) 23)
      replace f15 := (f15.below h8 f15.lt).alloc (.cells (bcells 64 (prd p (quoP p pa pb) py)) 23)
      replace ha := ha.trans (h8.mono ha.size)
      replace ha := ha.alloc ha.size (.cells (bcells 64 (prd p (quoP p pa pb) py)) 23)
      obtain ⟨w9, hw9⟩ : ∃ w9 : World, w9 = w8.alloc (.cells (bcells 64 (prd p (quoP p pa pb) py)) 23) := ⟨_, rfl⟩
      rw [← hw9] at f14 f15 f17 ha ⊢
      obtain ⟨M3, hM3⟩ : ∃ M, M = w8.heap.size := ⟨_, rfl⟩
      rw [← hM3] at f17 ⊢
      clear hw9 hM3 h8 f13
      have g9 := f9.below ha f9.lt
      have g11 := f11.below ha f11.lt
      have hl12 := f12.lt
      have lt_g9 : (N) < w9.heap.size := g9.lt
      have lt_g11 : (N + 1 + 1) < w9.heap.size := g11.lt
      have lt_f14 : (M + 1) < w9.heap.size := f14.lt
      have lt_f15 : (M2) < w9.heap.size := f15.lt
      have lt_f17 : (M3) < w9.heap.size := f17.lt
      have hbase : wr.heap.size ≤ w9.heap.size := ha.size
      refine wp_region_steps0 Try.mixed (by kernel_rfl) (by kernel_rfl) (fun v => by (simp only [frL, Act.put, List.setIfInBounds_toArray, List.set_cons_zero, List.set_cons_succ, Nat.reduceAdd, Nat.zero_add]; exact rfl))
        (fun L v wx => Below wr.heap.size wr wx ∧ w9.heap.size ≤ wx.heap.size ∧ Blk wx (N) 64 23 (pu) ∧ Blk wx (N + 1 + 1) 64 23 (pv) ∧ Blk wx (M + 1) 64 23 (resP p pa pb) ∧ Blk wx (M2) 64 23 (prd p (quoP p pa pb) px) ∧ Blk wx (M3) 64 23 (prd p (quoP p pa pb) py) ∧ (L 0 = true → v 0 = (.int .i64 (p : Int))) ∧ (L 1 = true → v 1 = (.agg (bcells 64 (pu)))) ∧ (L 2 = true → v 2 = (.agg (bcells 64 (prd p (quoP p pa pb) px)))) ∧ (L 3 = true → v 3 = (.agg (bcells 64 (subP p pu (prd p (quoP p pa pb) px))))) ∧ (L 4 = true → v 4 = (.int .i64 (p : Int))) ∧ (L 5 = true → v 5 = (.agg (bcells 64 (pv)))) ∧ (L 6 = true → v 6 = (.agg (bcells 64 (prd p (quoP p pa pb) py)))) ∧ (L 7 = true → v 7 = (.agg (bcells 64 (subP p pv (prd p (quoP p pa pb) py))))) ∧ (L 8 = true → AF (v 8) wx w9.heap.size 64 23) ∧ (L 9 = true → AF (v 9) wx w9.heap.size 64 23) ∧ (L 10 = true → PF (v 8) wx w9.heap.size 64 23 (subP p pu (prd p (quoP p pa pb) px))) ∧ (L 11 = true → PF (v 9) wx w9.heap.size 64 23 (subP p pv (prd p (quoP p pa pb) py))) ∧ (L 8 = true → L 9 = true → v 8 ≠ v 9)) ?_ ?_ ?_
      · intro v hv0
        exact ⟨ha.drew, Nat.le_refl _, g9.drew, g11.drew, f14.drew, f15.drew, f17.drew, (fun h => by cases h), (fun h => by cases h), (fun h => by cases h), (fun h => by cases h), (fun h => by cases h), (fun h => by cases h), (fun h => by cases h), (fun h => by cases h), (fun h => by cases h), (fun h => by cases h), (fun h => by cases h), (fun h => by cases h), (fun h => by cases h)⟩
      · refine (.cons rfl ?_ (.cons rfl ?_ (.cons rfl ?_ (.cons rfl ?_ (.cons rfl ?_ (.cons rfl ?_ (.cons rfl ?_ (.cons rfl ?_ (.cons rfl ?_ (.cons rfl ?_ (.cons rfl ?_ (.cons rfl ?_ (.nil _)))))))))))))
        · intro L v wx hd hn ⟨hB, hz, s0, s1, s2, s3, s4, h0, h1, h2, h3, h4, h5, h6, h7, h8, h9, h10, h11, d8_9⟩ K hK
          go_wp2_with fail
          exact hK _ (.int .i64 (p : Int)) _ (by simp only [Act.put, List.setIfInBounds_toArray, List.set_cons_zero, List.set_cons_succ ]) ⟨hB, hz, s0, s1, s2, s3, s4, (fun _ => rfl), h1, h2, h3, h4, h5, h6, h7, h8, h9, h10, h11, d8_9⟩
        · intro L v wx hd hn ⟨hB, hz, s0, s1, s2, s3, s4, h0, h1, h2, h3, h4, h5, h6, h7, h8, h9, h10, h11, d8_9⟩ K hK
          refine wp_load_blk 23 _ rfl _ rfl 64 23 _ s0 _ Try.underlying23 Try.size23 ?_
          exact hK _ _ _ rfl ⟨hB, hz, s0, s1, s2, s3, s4, h0, (fun _ => rfl), h2, h3, h4, h5, h6, h7, h8, h9, h10, h11, d8_9⟩
        · intro L v wx hd hn ⟨hB, hz, s0, s1, s2, s3, s4, h0, h1, h2, h3, h4, h5, h6, h7, h8, h9, h10, h11, d8_9⟩ K hK
          refine wp_load_blk 23 _ rfl _ rfl 64 23 _ s3 _ Try.underlying23 Try.size23 ?_
          exact hK _ _ _ rfl ⟨hB, hz, s0, s1, s2, s3, s4, h0, h1, (fun _ => rfl), h3, h4, h5, h6, h7, h8, h9, h10, h11, d8_9⟩
        · intro L v wx hd hn ⟨hB, hz, s0, s1, s2, s3, s4, h0, h1, h2, h3, h4, h5, h6, h7, h8, h9, h10, h11, d8_9⟩ K hK
          have e0 := h0 (hd ⟨0, .data⟩ (by simp) rfl)
          have e1 := h1 (hd ⟨1, .data⟩ (by simp) rfl)
          have e2 := h2 (hd ⟨2, .data⟩ (by simp) rfl)
          go_wp2_with (go_at_call 107; refine (HSB.out pu (prd p (quoP p pa pb) px) HIU.out (fun i _ => prd_lt p0 i) _).mono ?_; rintro e wy ⟨rfl, hy⟩)
          exact hK _ (.agg (bcells 64 (subP p pu (prd p (quoP p pa pb) px)))) _ (by simp only [Act.put, List.setIfInBounds_toArray, List.set_cons_zero, List.set_cons_succ, e0, e1, e2]) ⟨hB.trans (hy.mono hB.size), (Nat.le_trans hz hy.size), (s0).below hy (s0).lt, (s1).below hy (s1).lt, (s2).below hy (s2).lt, (s3).below hy (s3).lt, (s4).below hy (s4).lt, h0, h1, h2, (fun _ => rfl), h4, h5, h6, h7, (fun h => (h8 h).below hy), (fun h => (h9 h).below hy), (fun h => (h10 h).below hy), (fun h => (h11 h).below hy), d8_9⟩
        · intro L v wx hd hn ⟨hB, hz, s0, s1, s2, s3, s4, h0, h1, h2, h3, h4, h5, h6, h7, h8, h9, h10, h11, d8_9⟩ K hK
          go_wp2_with fail
          exact hK _ (.int .i64 (p : Int)) _ (by simp only [Act.put, List.setIfInBounds_toArray, List.set_cons_zero, List.set_cons_succ ]) ⟨hB, hz, s0, s1, s2, s3, s4, h0, h1, h2, h3, (fun _ => rfl), h5, h6, h7, h8, h9, h10, h11, d8_9⟩
        · intro L v wx hd hn ⟨hB, hz, s0, s1, s2, s3, s4, h0, h1, h2, h3, h4, h5, h6, h7, h8, h9, h10, h11, d8_9⟩ K hK
          refine wp_load_blk 23 _ rfl _ rfl 64 23 _ s1 _ Try.underlying23 Try.size23 ?_
          exact hK _ _ _ rfl ⟨hB, hz, s0, s1, s2, s3, s4, h0, h1, h2, h3, h4, (fun _ => rfl), h6, h7, h8, h9, h10, h11, d8_9⟩
        · intro L v wx hd hn ⟨hB, hz, s0, s1, s2, s3, s4, h0, h1, h2, h3, h4, h5, h6, h7, h8, h9, h10, h11, d8_9⟩ K hK
          refine wp_load_blk 23 _ rfl _ rfl 64 23 _ s4 _ Try.underlying23 Try.size23 ?_
          exact hK _ _ _ rfl ⟨hB, hz, s0, s1, s2, s3, s4, h0, h1, h2, h3, h4, h5, (fun _ => rfl), h7, h8, h9, h10, h11, d8_9⟩
        · intro L v wx hd hn ⟨hB, hz, s0, s1, s2, s3, s4, h0, h1, h2, h3, h4, h5, h6, h7, h8, h9, h10, h11, d8_9⟩ K hK
          have e4 := h4 (hd ⟨4, .data⟩ (by simp) rfl)
          have e5 := h5 (hd ⟨5, .data⟩ (by simp) rfl)
          have e6 := h6 (hd ⟨6, .data⟩ (by simp) rfl)
          go_wp2_with (go_at_call 107; refine (HSB.out pv (prd p (quoP p pa pb) py) HIV.out (fun i _ => prd_lt p0 i) _).mono ?_; rintro e wy ⟨rfl, hy⟩)
          exact hK _ (.agg (bcells 64 (subP p pv (prd p (quoP p pa pb) py)))) _ (by simp only [Act.put, List.setIfInBounds_toArray, List.set_cons_zero, List.set_cons_succ, e4, e5, e6]) ⟨hB.trans (hy.mono hB.size), (Nat.le_trans hz hy.size), (s0).below hy (s0).lt, (s1).below hy (s1).lt, (s2).below hy (s2).lt, (s3).below hy (s3).lt, (s4).below hy (s4).lt, h0, h1, h2, h3, h4, h5, h6, (fun _ => rfl), (fun h => (h8 h).below hy), (fun h => (h9 h).below hy), (fun h => (h10 h).below hy), (fun h => (h11 h).below hy), d8_9⟩
        · intro L v wx hd hn ⟨hB, hz, s0, s1, s2, s3, s4, h0, h1, h2, h3, h4, h5, h6, h7, h8, h9, h10, h11, d8_9⟩ K hK
          go_wp2_with fail
          rw [← zero64]
          exact hK _ (.pointer (some ⟨wx.heap.size, 0, none⟩)) _ (by simp only [Act.put, List.setIfInBounds_toArray, List.set_cons_zero, List.set_cons_succ ]) ⟨hB.alloc hB.size _, (by simp; omega), (s0).alloc _, (s1).alloc _, (s2).alloc _, (s3).alloc _, (s4).alloc _, h0, h1, h2, h3, h4, h5, h6, h7, (fun _ => (PF.new wx 64 23 _ hz).af), (fun h => (h9 h).below (below_alloc' _ _)), (fun h => absurd rfl (hn 10 _ rfl h ⟨8, .data⟩ (by simp) rfl)), (fun h => (h11 h).below (below_alloc' _ _)), (fun h g1 => Ne.symm ((h9 g1).ne_new))⟩
        · intro L v wx hd hn ⟨hB, hz, s0, s1, s2, s3, s4, h0, h1, h2, h3, h4, h5, h6, h7, h8, h9, h10, h11, d8_9⟩ K hK
          go_wp2_with fail
          rw [← zero64]
          exact hK _ (.pointer (some ⟨wx.heap.size, 0, none⟩)) _ (by simp only [Act.put, List.setIfInBounds_toArray, List.set_cons_zero, List.set_cons_succ ]) ⟨hB.alloc hB.size _, (by simp; omega), (s0).alloc _, (s1).alloc _, (s2).alloc _, (s3).alloc _, (s4).alloc _, h0, h1, h2, h3, h4, h5, h6, h7, (fun h => (h8 h).below (below_alloc' _ _)), (fun _ => (PF.new wx 64 23 _ hz).af), (fun h => (h10 h).below (below_alloc' _ _)), (fun h => absurd rfl (hn 11 _ rfl h ⟨9, .data⟩ (by simp) rfl)), (fun h g1 => (h8 h).ne_new)⟩
        · intro L v wx hd hn ⟨hB, hz, s0, s1, s2, s3, s4, h0, h1, h2, h3, h4, h5, h6, h7, h8, h9, h10, h11, d8_9⟩ K hK
          have e3 := h3 (hd ⟨3, .data⟩ (by simp) rfl)
          obtain ⟨gz, b, ea, hN, hk⟩ := (h8 (hd ⟨8, .data⟩ (by simp) rfl)).out
          refine wp_store_blk 23 _ _ rfl b 64 (subP p pu (prd p (quoP p pa pb) px)) ea e3 23 gz hk Try.size23 ?_
          exact hK _ undef _ rfl ⟨below_row hB (Nat.le_trans hbase hN) _, (by simpa [World.setRow] using hz), (s0).rowOther (by omega), (s1).rowOther (by omega), (s2).rowOther (by omega), (s3).rowOther (by omega), (s4).rowOther (by omega), h0, h1, h2, h3, h4, h5, h6, h7, (fun h => (h8 h).row hk), (fun h => (h9 h).row hk), (fun _ => by rw [show updV v 10 undef 8 = v 8 from rfl, ea]; exact PF.row hk hN _), (fun h => (h11 h).rowOther (by rw [← ea]; exact (Ne.symm (d8_9 (hd ⟨8, .data⟩ (by simp) rfl) (hd ⟨9, .phase⟩ (by simp) rfl))))), d8_9⟩
        · intro L v wx hd hn ⟨hB, hz, s0, s1, s2, s3, s4, h0, h1, h2, h3, h4, h5, h6, h7, h8, h9, h10, h11, d8_9⟩ K hK
          have e7 := h7 (hd ⟨7, .data⟩ (by simp) rfl)
          obtain ⟨gz, b, ea, hN, hk⟩ := (h9 (hd ⟨9, .data⟩ (by simp) rfl)).out
          refine wp_store_blk 23 _ _ rfl b 64 (subP p pv (prd p (quoP p pa pb) py)) ea e7 23 gz hk Try.size23 ?_
          exact hK _ undef _ rfl ⟨below_row hB (Nat.le_trans hbase hN) _, (by simpa [World.setRow] using hz), (s0).rowOther (by omega), (s1).rowOther (by omega), (s2).rowOther (by omega), (s3).rowOther (by omega), (s4).rowOther (by omega), h0, h1, h2, h3, h4, h5, h6, h7, (fun h => (h8 h).row hk), (fun h => (h9 h).row hk), (fun h => (h10 h).rowOther (by rw [← ea]; exact (d8_9 (hd ⟨8, .phase⟩ (by simp) rfl) (hd ⟨9, .data⟩ (by simp) rfl)))), (fun _ => by rw [show updV v 11 undef 9 = v 9 from rfl, ea]; exact PF.row hk hN _), d8_9⟩
      · intro L v wx hL ⟨hB, hz, s0, s1, s2, s3, s4, h0, h1, h2, h3, h4, h5, h6, h7, h8, h9, h10, h11, d8_9⟩
        have e0 := h0 (hL 0 (by decide))
        have e1 := h1 (hL 1 (by decide))
        have e2 := h2 (hL 2 (by decide))
        have e3 := h3 (hL 3 (by decide))
        have e4 := h4 (hL 4 (by decide))
        have e5 := h5 (hL 5 (by decide))
        have e6 := h6 (hL 6 (by decide))
        have e7 := h7 (hL 7 (by decide))
        obtain ⟨b8, e8, hN8, hb8⟩ := (h10 (hL 10 (by decide))).out
        obtain ⟨b9, e9, hN9, hb9⟩ := (h11 (hL 11 (by decide))).out
        have n8_9 := d8_9 (hL 8 (by decide)) (hL 9 (by decide))
        clear hL h0 h1 h2 h3 h4 h5 h6 h7 h8 h9 h10 h11 d8_9
        rw [e8, e9] at n8_9
        have m8_9 : b8 ≠ b9 := fun h => n8_9 (by rw [h])
        clear n8_9
        simp only [Exit.then, e0, e1, e2, e3, e4, e5, e6, e7, e8, e9]
        clear e0 e1 e2 e3 e4 e5 e6 e7 e8 e9
        have z0 := b0.lt
        have z1 := b1.lt
        have z9 := f9.lt
        have z10 := f10.lt
        have z11 := f11.lt
        have z12 := f12.lt
        have z14 := f14.lt
        have zs := ha.size
        have q0 : Blk wx (w.heap.size + 1) 64 23 (pb) := (b1.below hB b1.lt)
        have q1 : Blk wx (w.heap.size) 64 23 (pa) := (b0.below hB b0.lt)
        have q2 : Blk (wx.setRow (w.heap.size) (bcells 64 (pb))) (M + 1) 64 23 (resP p pa pb) := (s2.rowOther (by omega))
        have q3 : Blk (wx.setRow (w.heap.size) (bcells 64 (pb))) (w.heap.size + 1) 64 23 (pb) := ((b1.below hB b1.lt).rowOther (by omega))
        have q4 : Blk ((wx.setRow (w.heap.size) (bcells 64 (pb))).setRow (w.heap.size + 1) (bcells 64 (resP p pa pb))) (N + 1) 64 23 (px) := (((f10.below hB f10.lt).rowOther (by omega)).rowOther (by omega))
        have q5 : Blk ((wx.setRow (w.heap.size) (bcells 64 (pb))).setRow (w.heap.size + 1) (bcells 64 (resP p pa pb))) N 64 23 (pu) := (((f9.below hB f9.lt).rowOther (by omega)).rowOther (by omega))
        have q6 : Blk (((wx.setRow (w.heap.size) (bcells 64 (pb))).setRow (w.heap.size + 1) (bcells 64 (resP p pa pb))).setRow N (bcells 64 (px))) (N + 1 + 1 + 1) 64 23 (py) := ((((f12.below hB f12.lt).rowOther (by omega)).rowOther (by omega)).rowOther (by omega))
        have q7 : Blk (((wx.setRow (w.heap.size) (bcells 64 (pb))).setRow (w.heap.size + 1) (bcells 64 (resP p pa pb))).setRow N (bcells 64 (px))) (N + 1 + 1) 64 23 (pv) := ((((f11.below hB f11.lt).rowOther (by omega)).rowOther (by omega)).rowOther (by omega))
        have q8 : Blk ((((wx.setRow (w.heap.size) (bcells 64 (pb))).setRow (w.heap.size + 1) (bcells 64 (resP p pa pb))).setRow N (bcells 64 (px))).setRow (N + 1 + 1) (bcells 64 (py))) b8 64 23 ((subP p pu (prd p (quoP p pa pb) px))) := ((((hb8.rowOther (by omega)).rowOther (by omega)).rowOther (by omega)).rowOther (by omega))
        have q9 : Blk ((((wx.setRow (w.heap.size) (bcells 64 (pb))).setRow (w.heap.size + 1) (bcells 64 (resP p pa pb))).setRow N (bcells 64 (px))).setRow (N + 1 + 1) (bcells 64 (py))) (N + 1) 64 23 (px) := (((((f10.below hB f10.lt).rowOther (by omega)).rowOther (by omega)).rowOther (by omega)).rowOther (by omega))
        have q10 : Blk (((((wx.setRow (w.heap.size) (bcells 64 (pb))).setRow (w.heap.size + 1) (bcells 64 (resP p pa pb))).setRow N (bcells 64 (px))).setRow (N + 1 + 1) (bcells 64 (py))).setRow (N + 1) (bcells 64 ((subP p pu (prd p (quoP p pa pb) px))))) b9 64 23 ((subP p pv (prd p (quoP p pa pb) py))) := (((((hb9.rowOther (by omega)).rowOther (by omega)).rowOther (by omega)).rowOther (by omega)).rowOther (by omega))
        have q11 : Blk (((((wx.setRow (w.heap.size) (bcells 64 (pb))).setRow (w.heap.size + 1) (bcells 64 (resP p pa pb))).setRow N (bcells 64 (px))).setRow (N + 1 + 1) (bcells 64 (py))).setRow (N + 1) (bcells 64 ((subP p pu (prd p (quoP p pa pb) px))))) (N + 1 + 1 + 1) 64 23 (py) := ((((((f12.below hB f12.lt).rowOther (by omega)).rowOther (by omega)).rowOther (by omega)).rowOther (by omega)).rowOther (by omega))
        have hbF : Below w.heap.size w ((((((wx.setRow (w.heap.size) (bcells 64 (pb))).setRow (w.heap.size + 1) (bcells 64 (resP p pa pb))).setRow N (bcells 64 (px))).setRow (N + 1 + 1) (bcells 64 (py))).setRow (N + 1) (bcells 64 ((subP p pu (prd p (quoP p pa pb) px))))).setRow (N + 1 + 1 + 1) (bcells 64 ((subP p pv (prd p (quoP p pa pb) py))))) := (below_row (below_row (below_row (below_row (below_row (below_row (hb.trans (hB.mono hb.size)) (by omega) _) (by omega) _) (by omega) _) (by omega) _) (by omega) _) (by omega) _)
        have kn0 : Blk ((((((wx.setRow (w.heap.size) (bcells 64 (pb))).setRow (w.heap.size + 1) (bcells 64 (resP p pa pb))).setRow N (bcells 64 (px))).setRow (N + 1 + 1) (bcells 64 (py))).setRow (N + 1) (bcells 64 ((subP p pu (prd p (quoP p pa pb) px))))).setRow (N + 1 + 1 + 1) (bcells 64 ((subP p pv (prd p (quoP p pa pb) py))))) (w.heap.size) 64 23 (pb) := (((((((b0.below hB b0.lt).row (pb)).rowOther (by omega)).rowOther (by omega)).rowOther (by omega)).rowOther (by omega)).rowOther (by omega))
        have kn1 : Blk ((((((wx.setRow (w.heap.size) (bcells 64 (pb))).setRow (w.heap.size + 1) (bcells 64 (resP p pa pb))).setRow N (bcells 64 (px))).setRow (N + 1 + 1) (bcells 64 (py))).setRow (N + 1) (bcells 64 ((subP p pu (prd p (quoP p pa pb) px))))).setRow (N + 1 + 1 + 1) (bcells 64 ((subP p pv (prd p (quoP p pa pb) py))))) (w.heap.size + 1) 64 23 (resP p pa pb) := (((((((b1.below hB b1.lt).rowOther (by omega)).row (resP p pa pb)).rowOther (by omega)).rowOther (by omega)).rowOther (by omega)).rowOther (by omega))
        have kN0 : Blk ((((((wx.setRow (w.heap.size) (bcells 64 (pb))).setRow (w.heap.size + 1) (bcells 64 (resP p pa pb))).setRow N (bcells 64 (px))).setRow (N + 1 + 1) (bcells 64 (py))).setRow (N + 1) (bcells 64 ((subP p pu (prd p (quoP p pa pb) px))))).setRow (N + 1 + 1 + 1) (bcells 64 ((subP p pv (prd p (quoP p pa pb) py))))) N 64 23 (px) := (((((((f9.below hB f9.lt).rowOther (by omega)).rowOther (by omega)).row (px)).rowOther (by omega)).rowOther (by omega)).rowOther (by omega))
        have kN1 : Blk ((((((wx.setRow (w.heap.size) (bcells 64 (pb))).setRow (w.heap.size + 1) (bcells 64 (resP p pa pb))).setRow N (bcells 64 (px))).setRow (N + 1 + 1) (bcells 64 (py))).setRow (N + 1) (bcells 64 ((subP p pu (prd p (quoP p pa pb) px))))).setRow (N + 1 + 1 + 1) (bcells 64 ((subP p pv (prd p (quoP p pa pb) py))))) (N + 1) 64 23 ((subP p pu (prd p (quoP p pa pb) px))) := (((((((f10.below hB f10.lt).rowOther (by omega)).rowOther (by omega)).rowOther (by omega)).rowOther (by omega)).row ((subP p pu (prd p (quoP p pa pb) px)))).rowOther (by omega))
        have kN2 : Blk ((((((wx.setRow (w.heap.size) (bcells 64 (pb))).setRow (w.heap.size + 1) (bcells 64 (resP p pa pb))).setRow N (bcells 64 (px))).setRow (N + 1 + 1) (bcells 64 (py))).setRow (N + 1) (bcells 64 ((subP p pu (prd p (quoP p pa pb) px))))).setRow (N + 1 + 1 + 1) (bcells 64 ((subP p pv (prd p (quoP p pa pb) py))))) (N + 1 + 1) 64 23 (py) := (((((((f11.below hB f11.lt).rowOther (by omega)).rowOther (by omega)).rowOther (by omega)).row (py)).rowOther (by omega)).rowOther (by omega))
        have kN3 : Blk ((((((wx.setRow (w.heap.size) (bcells 64 (pb))).setRow (w.heap.size + 1) (bcells 64 (resP p pa pb))).setRow N (bcells 64 (px))).setRow (N + 1 + 1) (bcells 64 (py))).setRow (N + 1) (bcells 64 ((subP p pu (prd p (quoP p pa pb) px))))).setRow (N + 1 + 1 + 1) (bcells 64 ((subP p pv (prd p (quoP p pa pb) py))))) (N + 1 + 1 + 1) 64 23 ((subP p pv (prd p (quoP p pa pb) py))) := (((((((f12.below hB f12.lt).rowOther (by omega)).rowOther (by omega)).rowOther (by omega)).rowOther (by omega)).rowOther (by omega)).row ((subP p pv (prd p (quoP p pa pb) py))))
        have kz0 : Blk ((((((wx.setRow (w.heap.size) (bcells 64 (pb))).setRow (w.heap.size + 1) (bcells 64 (resP p pa pb))).setRow N (bcells 64 (px))).setRow (N + 1 + 1) (bcells 64 (py))).setRow (N + 1) (bcells 64 ((subP p pu (prd p (quoP p pa pb) px))))).setRow (N + 1 + 1 + 1) (bcells 64 ((subP p pv (prd p (quoP p pa pb) py))))) (w.heap.size + 1 + 1) 64 23 (fun _ => 0) := (((((((b2.below hB b2.lt).rowOther (by omega)).rowOther (by omega)).rowOther (by omega)).rowOther (by omega)).rowOther (by omega)).rowOther (by omega))
        have kz1 : Blk ((((((wx.setRow (w.heap.size) (bcells 64 (pb))).setRow (w.heap.size + 1) (bcells 64 (resP p pa pb))).setRow N (bcells 64 (px))).setRow (N + 1 + 1) (bcells 64 (py))).setRow (N + 1) (bcells 64 ((subP p pu (prd p (quoP p pa pb) px))))).setRow (N + 1 + 1 + 1) (bcells 64 ((subP p pv (prd p (quoP p pa pb) py))))) (w.heap.size + 1 + 1 + 1) 64 23 (fun _ => 0) := (((((((b3.below hB b3.lt).rowOther (by omega)).rowOther (by omega)).rowOther (by omega)).rowOther (by omega)).rowOther (by omega)).rowOther (by omega))
        have kz2 : Blk ((((((wx.setRow (w.heap.size) (bcells 64 (pb))).setRow (w.heap.size + 1) (bcells 64 (resP p pa pb))).setRow N (bcells 64 (px))).setRow (N + 1 + 1) (bcells 64 (py))).setRow (N + 1) (bcells 64 ((subP p pu (prd p (quoP p pa pb) px))))).setRow (N + 1 + 1 + 1) (bcells 64 ((subP p pv (prd p (quoP p pa pb) py))))) (w.heap.size + 1 + 1 + 1 + 1) 64 23 (fun _ => 0) := (((((((b4.below hB b4.lt).rowOther (by omega)).rowOther (by omega)).rowOther (by omega)).rowOther (by omega)).rowOther (by omega)).rowOther (by omega))
        clear z0 z1 z9 z10 z11 z12 z14 zs
        go_upto_region 8 with (first | (refine wpList_load_blk rfl 23 (.tmp 5) rfl _ rfl 64 23 _ q0 5 Try.underlying23 Try.size23 ?_) | (refine wpList_store_blk rfl 23 (.tmp 4) (.tmp 58) rfl _ 64 (pb) rfl rfl 23 _ q1 Try.size23 ?_))
        try simp only [Act.put, List.setIfInBounds_toArray, List.set_cons_zero, List.set_cons_succ]
        go_upto_region 9 with (first | (refine wpList_load_blk rfl 23 (.tmp 14) rfl _ rfl 64 23 _ q2 5 Try.underlying23 Try.size23 ?_) | (refine wpList_store_blk rfl 23 (.tmp 5) (.tmp 59) rfl _ 64 (resP p pa pb) rfl rfl 23 _ q3 Try.size23 ?_))
        try simp only [Act.put, List.setIfInBounds_toArray, List.set_cons_zero, List.set_cons_succ]
        go_upto_region 10 with (first | (refine wpList_load_blk rfl 23 (.tmp 10) rfl _ rfl 64 23 _ q4 5 Try.underlying23 Try.size23 ?_) | (refine wpList_store_blk rfl 23 (.tmp 9) (.tmp 60) rfl _ 64 (px) rfl rfl 23 _ q5 Try.size23 ?_))
        try simp only [Act.put, List.setIfInBounds_toArray, List.set_cons_zero, List.set_cons_succ]
        go_upto_region 11 with (first | (refine wpList_load_blk rfl 23 (.tmp 12) rfl _ rfl 64 23 _ q6 5 Try.underlying23 Try.size23 ?_) | (refine wpList_store_blk rfl 23 (.tmp 11) (.tmp 61) rfl _ 64 (py) rfl rfl 23 _ q7 Try.size23 ?_))
        try simp only [Act.put, List.setIfInBounds_toArray, List.set_cons_zero, List.set_cons_succ]
        go_upto_region 12 with (first | (refine wpList_load_blk rfl 23 (.tmp 19) rfl _ rfl 64 23 _ q8 5 Try.underlying23 Try.size23 ?_) | (refine wpList_store_blk rfl 23 (.tmp 10) (.tmp 62) rfl _ 64 ((subP p pu (prd p (quoP p pa pb) px))) rfl rfl 23 _ q9 Try.size23 ?_))
        try simp only [Act.put, List.setIfInBounds_toArray, List.set_cons_zero, List.set_cons_succ]
        go_wp2_with (first | (refine wpList_load_blk rfl 23 (.tmp 20) rfl _ rfl 64 23 _ q10 5 Try.underlying23 Try.size23 ?_) | (refine wpList_store_blk rfl 23 (.tmp 12) (.tmp 63) rfl _ 64 ((subP p pv (prd p (quoP p pa pb) py))) rfl rfl 23 _ q11 Try.size23 ?_))
        try simp only [Act.put, List.setIfInBounds_toArray, List.set_cons_zero, List.set_cons_succ]
        try simp only [Act.put]
        go_roundw
        case rel => exact ⟨k, pb, resP p pa pb, px, (subP p pu (prd p (quoP p pa pb) px)), py, (subP p pv (prd p (quoP p pa pb) py)), HRN.out, by have := HDR.out; omega, HI'.out, hbF, kn0, kn1, kz0, kz1, kz2, kN0, kN1, kN2, kN3⟩
        case measure =>
          rw [degAt_blk kn1 (by omega), degAt_blk b1 (by omega)]
          have := HDR.out
          omega
end Go.Proofs.Ytbjpkmbhbpcbgaa
