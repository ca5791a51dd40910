/-
  What the rows of this claim rest on: arrays of bytes, walks of the functions, plain mathematics.
-/
import Derived.Test.YtelgefgphhebnaaZs3
section
namespace Go.Proofs.Ytelgefgphhebnaa
open Go.RowKit
set_option linter.unusedVariables false
set_option linter.unusedSimpArgs false
attribute [local irreducible] deg invN dS qS stp stpr quoP resP oneP c3
theorem zero192 : zb 192 (fun _ => 0) = Try.zeroCells169 := by simp only [zb, bl]; kernel_rfl
theorem differenceS_any (p : Nat) (f g : Nat → Nat) (w : World) (hp1 : 2 ≤ p) (hp2 : p ≤ 7) (hf : ∀ i, i < 64 → f i < p) (hg : ∀ i, i < 64 → g i < p) :
 Calls Try.prog 59 #[.int .i64 (p : Int), .agg (zb 64 f), .agg (zb 64 g)] w fun e w' => e = .returned (.agg (zb 64 (subP p f g))) ∧ Below w.heap.size w w' := difference_any p f g w hp1 hp2 hf hg
set_option maxRecDepth 100000 in
set_option maxHeartbeats 3000000 in
theorem bezout_any (p : Nat) (A B : Nat → Nat) (w : World) (hp : p = 2 ∨ p = 3 ∨ p = 5 ∨ p = 7) (hA : ∀ k, k < 64 → A k < p) (hB : ∀ k, k < 64 → B k < p) (hd : 0 ≤ deg A ∨ 0 ≤ deg B) :
 Calls Try.prog 144 #[.int .i64 (p : Int), .agg (zb 64 A), .agg (zb 64 B)] w fun e w' => e = .returned (.tuple #[.agg (zb 64 (bzD p A B)), .agg (zb 64 (bzU p A B)), .agg (zb 64 (bzW p A B))]) ∧ Below w.heap.size w w' := by
 have p2 : 2 ≤ p := by omega
 have p7 : p ≤ 7 := by omega
 have p0 : 0 < p := by omega
 have HI0 := Lib.hid (bzI_start p2 hA hB hd)
 clear hA hB hd
 go_enter Try.func144, Try.ntmps144
 go_upto_region 1 with (fail)
 rw [← z64]
 obtain ⟨W1, hwo⟩ : ∃ v : World, v = (((((w.alloc (.cells (zb 64 (A)) 28)).alloc (.cells (zb 64 (B)) 28)).alloc (.cells (zb 64 fun _ => 0) 28)).alloc (.cells (zb 64 fun _ => 0) 28)).alloc (.cells (zb 64 fun _ => 0) 28)) := ⟨_, rfl⟩
 have B0 : Blk W1 (w.heap.size) 64 28 (A) := by subst hwo; have := (((((Blk.new w 64 28 (A)).alloc (.cells (zb 64 (B)) 28)).alloc (.cells (zb 64 fun _ => 0) 28)).alloc (.cells (zb 64 fun _ => 0) 28)).alloc (.cells (zb 64 fun _ => 0) 28)); simpa using this
 have B1 : Blk W1 (w.heap.size + 1) 64 28 (B) := by subst hwo; have := ((((Blk.new (w.alloc (.cells (zb 64 (A)) 28)) 64 28 (B)).alloc (.cells (zb 64 fun _ => 0) 28)).alloc (.cells (zb 64 fun _ => 0) 28)).alloc (.cells (zb 64 fun _ => 0) 28)); simpa using this
 have B2 : Blk W1 (w.heap.size + 1 + 1) 64 28 (fun _ => 0) := by subst hwo; have := (((Blk.new ((w.alloc (.cells (zb 64 (A)) 28)).alloc (.cells (zb 64 (B)) 28)) 64 28 (fun _ => 0)).alloc (.cells (zb 64 fun _ => 0) 28)).alloc (.cells (zb 64 fun _ => 0) 28)); simpa using this
 have B3 : Blk W1 (w.heap.size + 1 + 1 + 1) 64 28 (fun _ => 0) := by subst hwo; have := ((Blk.new (((w.alloc (.cells (zb 64 (A)) 28)).alloc (.cells (zb 64 (B)) 28)).alloc (.cells (zb 64 fun _ => 0) 28)) 64 28 (fun _ => 0)).alloc (.cells (zb 64 fun _ => 0) 28)); simpa using this
 have B4 : Blk W1 (w.heap.size + 1 + 1 + 1 + 1) 64 28 (fun _ => 0) := by subst hwo; have := (Blk.new ((((w.alloc (.cells (zb 64 (A)) 28)).alloc (.cells (zb 64 (B)) 28)).alloc (.cells (zb 64 fun _ => 0) 28)).alloc (.cells (zb 64 fun _ => 0) 28)) 64 28 (fun _ => 0)); simpa using this
 have hb : Below w.heap.size w W1 := by subst hwo; exact ((((((Below.refl _ _).alloc (Nat.le_refl _) _).alloc (by simp) _).alloc (by simp; omega) _).alloc (by simp; omega) _).alloc (by simp; omega) _)
 rw [← hwo]
 clear hwo
 have lt_B0 : (w.heap.size) < W1.heap.size := B0.lt
 have lt_B1 : (w.heap.size + 1) < W1.heap.size := B1.lt
 have lt_B2 : (w.heap.size + 1 + 1) < W1.heap.size := B2.lt
 have lt_B3 : (w.heap.size + 1 + 1 + 1) < W1.heap.size := B3.lt
 have lt_B4 : (w.heap.size + 1 + 1 + 1 + 1) < W1.heap.size := B4.lt
 have hbase : w.heap.size ≤ W1.heap.size := hb.size
 refine zq Try.mixed (by kernel_rfl) (by kernel_rfl) (fun v => by (simp only [frL, Act.put, pA, pB, pC, Nat.reduceAdd, Nat.zero_add]; exact rfl))
  (fun L v W2 => Below w.heap.size w W2 ∧ W1.heap.size ≤ W2.heap.size ∧ Blk W2 (w.heap.size) 64 28 (A) ∧ Blk W2 (w.heap.size + 1) 64 28 (B) ∧ Blk W2 (w.heap.size + 1 + 1) 64 28 (fun _ => 0) ∧ Blk W2 (w.heap.size + 1 + 1 + 1) 64 28 (fun _ => 0) ∧ Blk W2 (w.heap.size + 1 + 1 + 1 + 1) 64 28 (fun _ => 0) ∧ (L 0 = true → v 0 = (.agg (zb 64 (A)))) ∧ (L 1 = true → v 1 = (.agg (zb 64 (oneP)))) ∧ (L 2 = true → v 2 = (.agg (zb 192 (c3 A oneP (fun _ => 0))))) ∧ (L 3 = true → v 3 = (.agg (zb 64 (B)))) ∧ (L 4 = true → v 4 = (.agg (zb 64 (oneP)))) ∧ (L 5 = true → v 5 = (.agg (zb 192 (c3 B (fun _ => 0) oneP)))) ∧ (L 6 = true → AF (v 6) W2 W1.heap.size 192 169) ∧ (L 7 = true → AF (v 7) W2 W1.heap.size 192 169) ∧ (L 8 = true → PF (v 6) W2 W1.heap.size 192 169 (c3 A oneP (fun _ => 0))) ∧ (L 9 = true → PF (v 7) W2 W1.heap.size 192 169 (c3 B (fun _ => 0) oneP)) ∧ (L 6 = true → L 7 = true → v 6 ≠ v 7)) ?_ ?_ ?_
 · intro v hv0
   exact ⟨hb.drew, Nat.le_refl _, B0.drew, B1.drew, B2.drew, B3.drew, B4.drew, (fun h => by cases h), (fun h => by cases h), (fun h => by cases h), (fun h => by cases h), (fun h => by cases h), (fun h => by cases h), (fun h => by cases h), (fun h => by cases h), (fun h => by cases h), (fun h => by cases h), (fun h => by cases h)⟩
 · refine (.cons rfl ?_ (.cons rfl ?_ (.cons rfl ?_ (.cons rfl ?_ (.cons rfl ?_ (.cons rfl ?_ (.cons rfl ?_ (.cons rfl ?_ (.cons rfl ?_ (.cons rfl ?_ (.nil _)))))))))))
   all_goals intro L v W2 hd hn ⟨hB, hz, s0, s1, s2, s3, s4, h0, h1, h2, h3, h4, h5, h6, h7, h8, h9, d6_7⟩ K hK
   · refine zlc s0 Try.underlying28 Try.size28 ?_
     exact hK _ _ _ rfl ⟨hB, hz, s0, s1, s2, s3, s4, (fun _ => rfl), h1, h2, h3, h4, h5, h6, h7, h8, h9, d6_7⟩
   · refine wp_build_of 28 _ rfl (zb 64 oneP) (by rw [Array.toList_map]; show Try.prog.built 28 [(0, .int .u8 1)] = some (zb 64 oneP); exact built_one) ?_
     exact hK _ _ _ rfl ⟨hB, hz, s0, s1, s2, s3, s4, h0, (fun _ => rfl), h2, h3, h4, h5, h6, h7, h8, h9, d6_7⟩
   · have e0 := h0 (zdq hd 0 rfl)
     have e1 := h1 (zdq hd 1 rfl)
     refine wp_build_of 169 _ rfl (zb 192 (c3 A oneP (fun _ => 0))) (by rw [Array.toList_map]; show Try.prog.built 169 [(0, v 0), (1, v 1)] = some (zb 192 (c3 A oneP (fun _ => 0))); rw [e0, e1]; exact built_ru A oneP) ?_
     exact hK _ _ _ rfl ⟨hB, hz, s0, s1, s2, s3, s4, h0, h1, (fun _ => rfl), h3, h4, h5, h6, h7, h8, h9, d6_7⟩
   · refine zlc s1 Try.underlying28 Try.size28 ?_
     exact hK _ _ _ rfl ⟨hB, hz, s0, s1, s2, s3, s4, h0, h1, h2, (fun _ => rfl), h4, h5, h6, h7, h8, h9, d6_7⟩
   · refine wp_build_of 28 _ rfl (zb 64 oneP) (by rw [Array.toList_map]; show Try.prog.built 28 [(0, .int .u8 1)] = some (zb 64 oneP); exact built_one) ?_
     exact hK _ _ _ rfl ⟨hB, hz, s0, s1, s2, s3, s4, h0, h1, h2, h3, (fun _ => rfl), h5, h6, h7, h8, h9, d6_7⟩
   · have e3 := h3 (zdq hd 3 rfl)
     have e4 := h4 (zdq hd 4 rfl)
     refine wp_build_of 169 _ rfl (zb 192 (c3 B (fun _ => 0) oneP)) (by rw [Array.toList_map]; show Try.prog.built 169 [(0, v 3), (2, v 4)] = some (zb 192 (c3 B (fun _ => 0) oneP)); rw [e3, e4]; exact built_rv B oneP) ?_
     exact hK _ _ _ rfl ⟨hB, hz, s0, s1, s2, s3, s4, h0, h1, h2, h3, h4, (fun _ => rfl), h6, h7, h8, h9, d6_7⟩
   · go_wp2_with fail
     rw [← zero192]
     exact hK _ (.pointer (some ⟨W2.heap.size, 0, none⟩)) _ (by simp only [Act.put, pA, pB, pC ]) ⟨hB.alloc hB.size _, (by simp; omega), (s0).alloc _, (s1).alloc _, (s2).alloc _, (s3).alloc _, (s4).alloc _, h0, h1, h2, h3, h4, h5, (fun _ => (PF.new W2 192 169 _ hz).af), (fun h => (h7 h).below (zal _ _)), (fun h => absurd rfl (hn 8 _ rfl h ⟨6, .data⟩ (by simp) rfl)), (fun h => (h9 h).below (zal _ _)), (fun h g1 => Ne.symm ((h7 g1).ne_new))⟩
   · go_wp2_with fail
     rw [← zero192]
     exact hK _ (.pointer (some ⟨W2.heap.size, 0, none⟩)) _ (by simp only [Act.put, pA, pB, pC ]) ⟨hB.alloc hB.size _, (by simp; omega), (s0).alloc _, (s1).alloc _, (s2).alloc _, (s3).alloc _, (s4).alloc _, h0, h1, h2, h3, h4, h5, (fun h => (h6 h).below (zal _ _)), (fun _ => (PF.new W2 192 169 _ hz).af), (fun h => (h8 h).below (zal _ _)), (fun h => absurd rfl (hn 9 _ rfl h ⟨7, .data⟩ (by simp) rfl)), (fun h g1 => (h6 h).ne_new)⟩
   · have e2 := h2 (zdq hd 2 rfl)
     obtain ⟨gz, b, ea, hN, hk⟩ := (h6 (zdq hd 6 rfl)).out
     refine zsb 169 _ _ rfl b 192 (c3 A oneP (fun _ => 0)) ea e2 169 gz hk Try.size169 ?_
     exact hK _ undef _ rfl ⟨zr hB (Nat.le_trans hbase hN) _, (by simpa [World.setRow] using hz), (s0).rowOther (by omega), (s1).rowOther (by omega), (s2).rowOther (by omega), (s3).rowOther (by omega), (s4).rowOther (by omega), h0, h1, h2, h3, h4, h5, (fun h => (h6 h).row hk), (fun h => (h7 h).row hk), (fun _ => by rw [show updV v 8 undef 6 = v 6 from rfl, ea]; exact PF.row hk hN _), (fun h => (h9 h).rowOther (by rw [← ea]; exact (Ne.symm (d6_7 (zdq hd 6 rfl) (zdq hd 7 rfl))))), d6_7⟩
   · have e5 := h5 (zdq hd 5 rfl)
     obtain ⟨gz, b, ea, hN, hk⟩ := (h7 (zdq hd 7 rfl)).out
     refine zsb 169 _ _ rfl b 192 (c3 B (fun _ => 0) oneP) ea e5 169 gz hk Try.size169 ?_
     exact hK _ undef _ rfl ⟨zr hB (Nat.le_trans hbase hN) _, (by simpa [World.setRow] using hz), (s0).rowOther (by omega), (s1).rowOther (by omega), (s2).rowOther (by omega), (s3).rowOther (by omega), (s4).rowOther (by omega), h0, h1, h2, h3, h4, h5, (fun h => (h6 h).row hk), (fun h => (h7 h).row hk), (fun h => (h8 h).rowOther (by rw [← ea]; exact (d6_7 (zdq hd 6 rfl) (zdq hd 7 rfl)))), (fun _ => by rw [show updV v 9 undef 7 = v 7 from rfl, ea]; exact PF.row hk hN _), d6_7⟩
 · intro L v W2 hL ⟨hB, hz, s0, s1, s2, s3, s4, h0, h1, h2, h3, h4, h5, h6, h7, h8, h9, d6_7⟩
   have e0 := h0 (hL 0 (by decide))
   have e1 := h1 (hL 1 (by decide))
   have e2 := h2 (hL 2 (by decide))
   have e3 := h3 (hL 3 (by decide))
   have e4 := h4 (hL 4 (by decide))
   have e5 := h5 (hL 5 (by decide))
   obtain ⟨k1_6, e6, hNk1_6, hk1_6⟩ := (h8 (hL 8 (by decide))).out
   obtain ⟨k1_7, e7, hNk1_7, hk1_7⟩ := (h9 (hL 9 (by decide))).out
   have n6_7 := d6_7 (hL 6 (by decide)) (hL 7 (by decide))
   clear hL h0 h1 h2 h3 h4 h5 h6 h7 h8 h9 d6_7
   rw [e6, e7] at n6_7
   have mk1_6_7 : k1_6 ≠ k1_7 := fun h => n6_7 (by rw [h])
   clear n6_7
   simp only [Exit.then, e0, e1, e2, e3, e4, e5, e6, e7]
   clear e0 e1 e2 e3 e4 e5 e6 e7
   replace B0 := s0
   clear s0
   replace B1 := s1
   clear s1
   replace B2 := s2
   clear s2
   replace B3 := s3
   clear s3
   replace B4 := s4
   clear s4
   replace hb := hB
   clear hB
   have B5 := hk1_6
   clear hk1_6
   have zk1_6_0 : w.heap.size < k1_6 := by omega
   have zk1_6_1 : w.heap.size + 1 < k1_6 := by omega
   have zk1_6_2 : w.heap.size + 1 + 1 < k1_6 := by omega
   have zk1_6_3 : w.heap.size + 1 + 1 + 1 < k1_6 := by omega
   have zk1_6_4 : w.heap.size + 1 + 1 + 1 + 1 < k1_6 := by omega
   have B6 := hk1_7
   clear hk1_7
   have zk1_7_0 : w.heap.size < k1_7 := by omega
   have zk1_7_1 : w.heap.size + 1 < k1_7 := by omega
   have zk1_7_2 : w.heap.size + 1 + 1 < k1_7 := by omega
   have zk1_7_3 : w.heap.size + 1 + 1 + 1 < k1_7 := by omega
   have zk1_7_4 : w.heap.size + 1 + 1 + 1 + 1 < k1_7 := by omega
   clear hbase hz lt_B0 lt_B1 lt_B2 lt_B3 lt_B4
   have hl9 := B5.lt
   have hl10 := B6.lt
   go_wp2_with fail
   go_loopw [25] (fun i wr => ∃ (k : Nat) (pa pb pu px pv py : Nat → Nat), bzV p A B = bzRun p k pa pb pu px pv py ∧ deg pb + 1 ≤ (k : Int) ∧ bzI p pa pb pu px pv py ∧ Below w.heap.size w wr ∧ Blk wr k1_6 192 169 (c3 pa pu pv) ∧ Blk wr k1_7 192 169 (c3 pb px py) ∧ Blk wr (w.heap.size + 1 + 1) 64 28 (fun _ => 0) ∧ Blk wr (w.heap.size + 1 + 1 + 1) 64 28 (fun _ => 0) ∧ Blk wr (w.heap.size + 1 + 1 + 1 + 1) 64 28 (fun _ => 0)) (fun _ wr => degAt wr k1_7)
   case atStart => exact ⟨65, A, B, oneP, fun _ => 0, fun _ => 0, oneP, rfl, by have := zdb B; omega, HI0.out, hb, B5, B6, B2, B3, B4⟩
   case round =>
    clear hb B0 B1 B2 B3 B4 B5 B6 hl9 hl10
    obtain ⟨k, pa, pb, pu, px, pv, py, hrun, hk, hI, hb, B5, B6, B2, B3, B4⟩ := hrel
    have ⟨ia, ib, iu, ix, iv, iy, d1, d2, d3, d4, d5⟩ := hI
    have hgd := Try.noGuard28
    by_cases hz : deg pb < 0
    · have heq := fun W => zeb (P := Try.prog) W 9998 28 5 64 pb (fun _ => 0) Try.underlying28 Try.underlying5 Try.size5
      rw [eqN_zero, show decide (deg pb < 0) = true by simp [hz]] at heq
      simp only [z64] at heq
      have hV := hrun.trans (bzRun_stop hz)
      obtain ⟨m, hm⟩ : ∃ m : Nat, deg pa = (m : Int) := ⟨(deg pa).toNat, by omega⟩
      obtain ⟨hm6, ham, _⟩ := deg_top hm
      obtain ⟨c, hc⟩ : ∃ c, c = bzC p A B := ⟨_, rfl⟩
      have hci : invN p (pa m) = c := by rw [hc]; unfold bzC; rw [hV]; show invN p (pa m) = invN p (pa (deg pa).toNat); rw [hm]; rfl
      have hcp : c < p := by rw [← hci]; exact (invF hp ham (ia m hm6)).2.1
      have HR := Lib.hid (show bzD p A B = sclP p pa c ∧ bzU p A B = sclP p pu c ∧ bzW p A B = sclP p pv c by
       unfold bzD bzU bzW; rw [← hc, hV]; exact ⟨rfl, rfl, rfl⟩)
      have HM := Lib.hid hm
      have HC := Lib.hid hci
      have HIA := Lib.hid ia; have HIU := Lib.hid iu; have HIV := Lib.hid iv
      clear hV hrun hI hk ib ix iy d1 d2 d3 d4 d5 hc hci hm ia iu iv
      go_upto_region 7 with (first | (refine wpList_load_mid (op := ⟨some 23, _, _, _, _, _⟩) rfl 28 (.tmp 22) rfl _ 0 rfl (bl 64 pb) _ (B6.mid (by omega) (c3_0 _ _ _)) Try.underlying28 rfl (by rw [zl]; exact Try.size28) ?_))
      clear heq hgd
      go_upto_region 8 with (first | (refine wpList_load_mid (op := ⟨some 60, _, _, _, _, _⟩) rfl 28 (.tmp 59) rfl _ 0 rfl (bl 64 (pa)) _ ((B5).mid (by omega) (c3_0 _ _ _)) Try.underlying28 rfl (by rw [zl]; exact Try.size28) ?_) | (go_at_call 77; refine (degree_any _ _).mono ?_; rintro e W3 ⟨rfl, hW3⟩; replace B2 := B2.zw hW3; replace B3 := B3.zw hW3; replace B4 := B4.zw hW3; replace B5 := B5.zw hW3; replace B6 := B6.zw hW3; replace hb := (hb).trans (hW3.mono (hb).size); rw [HM.out]; have c0 := B5.cell (i := m) (by omega); rw [show c3 pa pu pv m = pa m by have := c3_0 pa pu pv m hm6; rwa [Nat.zero_add] at this] at c0) | (go_at_call 162; refine (inverseNumber_any p (pa m) _ hp ham (HIA.out m hm6)).mono ?_; rintro e wS ⟨rfl, rfl⟩; rw [HC.out]))
      try clear c0
      have lt_B2 : (w.heap.size + 1 + 1) < W3.heap.size := B2.lt
      have lt_B3 : (w.heap.size + 1 + 1 + 1) < W3.heap.size := B3.lt
      have lt_B4 : (w.heap.size + 1 + 1 + 1 + 1) < W3.heap.size := B4.lt
      have lt_B5 : (k1_6) < W3.heap.size := B5.lt
      have lt_B6 : (k1_7) < W3.heap.size := B6.lt
      have hbase : w.heap.size ≤ W3.heap.size := hb.size
      refine zq Try.mixed (by kernel_rfl) (by kernel_rfl) (fun v => by (simp only [frL, Act.put, pA, pB, pC, Nat.reduceAdd, Nat.zero_add]; exact rfl))
       (fun L v W4 => Below w.heap.size w W4 ∧ W3.heap.size ≤ W4.heap.size ∧ (∃ g, Blk W4 (w.heap.size + 1 + 1) 64 28 (g)) ∧ (L 15 = false → Blk W4 (w.heap.size + 1 + 1) 64 28 (fun _ => 0)) ∧ (L 15 = true → Blk W4 (w.heap.size + 1 + 1) 64 28 (sclP p pa c)) ∧ (∃ g, Blk W4 (w.heap.size + 1 + 1 + 1) 64 28 (g)) ∧ (L 16 = false → Blk W4 (w.heap.size + 1 + 1 + 1) 64 28 (fun _ => 0)) ∧ (L 16 = true → Blk W4 (w.heap.size + 1 + 1 + 1) 64 28 (sclP p pu c)) ∧ (∃ g, Blk W4 (w.heap.size + 1 + 1 + 1 + 1) 64 28 (g)) ∧ (L 17 = false → Blk W4 (w.heap.size + 1 + 1 + 1 + 1) 64 28 (fun _ => 0)) ∧ (L 17 = true → Blk W4 (w.heap.size + 1 + 1 + 1 + 1) 64 28 (sclP p pv c)) ∧ Blk W4 (k1_6) 192 169 (c3 pa pu pv) ∧ Blk W4 (k1_7) 192 169 (c3 pb px py) ∧ (L 0 = true → v 0 = (.int .i64 (p : Int))) ∧ (L 1 = true → v 1 = (.pointer (some ⟨k1_6, 0, none⟩))) ∧ (L 2 = true → v 2 = (.agg (zb 64 (pa)))) ∧ (L 3 = true → v 3 = (.int .u8 (c : Int))) ∧ (L 4 = true → v 4 = (.agg (zb 64 (sclP p pa c)))) ∧ (L 5 = true → v 5 = (.int .i64 (p : Int))) ∧ (L 6 = true → v 6 = (.pointer (some ⟨k1_6, 64, none⟩))) ∧ (L 7 = true → v 7 = (.agg (zb 64 (pu)))) ∧ (L 8 = true → v 8 = (.int .u8 (c : Int))) ∧ (L 9 = true → v 9 = (.agg (zb 64 (sclP p pu c)))) ∧ (L 10 = true → v 10 = (.int .i64 (p : Int))) ∧ (L 11 = true → v 11 = (.pointer (some ⟨k1_6, 128, none⟩))) ∧ (L 12 = true → v 12 = (.agg (zb 64 (pv)))) ∧ (L 13 = true → v 13 = (.int .u8 (c : Int))) ∧ (L 14 = true → v 14 = (.agg (zb 64 (sclP p pv c))))) ?_ ?_ ?_
      · intro v hv0
        exact ⟨hb.drew, Nat.le_refl _, ⟨_, B2.drew⟩, (fun _ => B2.drew), (fun h => by cases h), ⟨_, B3.drew⟩, (fun _ => B3.drew), (fun h => by cases h), ⟨_, B4.drew⟩, (fun _ => B4.drew), (fun h => by cases h), B5.drew, B6.drew, (fun h => by cases h), (fun h => by cases h), (fun h => by cases h), (fun h => by cases h), (fun h => by cases h), (fun h => by cases h), (fun h => by cases h), (fun h => by cases h), (fun h => by cases h), (fun h => by cases h), (fun h => by cases h), (fun h => by cases h), (fun h => by cases h), (fun h => by cases h), (fun h => by cases h)⟩
      · refine (.cons rfl ?_ (.cons rfl ?_ (.cons rfl ?_ (.cons rfl ?_ (.cons rfl ?_ (.cons rfl ?_ (.cons rfl ?_ (.cons rfl ?_ (.cons rfl ?_ (.cons rfl ?_ (.cons rfl ?_ (.cons rfl ?_ (.cons rfl ?_ (.cons rfl ?_ (.cons rfl ?_ (.cons rfl ?_ (.cons rfl ?_ (.cons rfl ?_ (.nil _)))))))))))))))))))
        all_goals intro L v W4 hd hn ⟨hB, hz, x0, q0, n0, x1, q1, n1, x2, q2, n2, s3, s4, h0, h1, h2, h3, h4, h5, h6, h7, h8, h9, h10, h11, h12, h13, h14⟩ K hK
        · go_wp2_with fail
          exact hK _ (.int .i64 (p : Int)) _ (by simp only [Act.put, pA, pB, pC ]) ⟨hB, hz, x0, q0, n0, x1, q1, n1, x2, q2, n2, s3, s4, (fun _ => rfl), h1, h2, h3, h4, h5, h6, h7, h8, h9, h10, h11, h12, h13, h14⟩
        · go_wp2_with fail
          exact hK _ (.pointer (some ⟨k1_6, 0, none⟩)) _ (by simp only [Act.put, pA, pB, pC ]) ⟨hB, hz, x0, q0, n0, x1, q1, n1, x2, q2, n2, s3, s4, h0, (fun _ => rfl), h2, h3, h4, h5, h6, h7, h8, h9, h10, h11, h12, h13, h14⟩
        · have e1 := h1 (zdq hd 1 rfl)
          refine wp_load_mid 28 _ rfl _ (0) e1 _ _ (s3.mid (by omega) (c3_0 _ _ _)) Try.underlying28 rfl (by rw [zl]; exact Try.size28) ?_
          exact hK _ _ _ rfl ⟨hB, hz, x0, q0, n0, x1, q1, n1, x2, q2, n2, s3, s4, h0, h1, (fun _ => rfl), h3, h4, h5, h6, h7, h8, h9, h10, h11, h12, h13, h14⟩
        · go_wp2_with fail
          exact hK _ (.int .u8 (c : Int)) _ (by simp only [Act.put, pA, pB, pC ]) ⟨hB, hz, x0, q0, n0, x1, q1, n1, x2, q2, n2, s3, s4, h0, h1, h2, (fun _ => rfl), h4, h5, h6, h7, h8, h9, h10, h11, h12, h13, h14⟩
        · have e0 := h0 (zdq hd 0 rfl)
          have e2 := h2 (zdq hd 2 rfl)
          have e3 := h3 (zdq hd 3 rfl)
          go_wp2_with (go_at_call 163; refine (scaled_any p pa c _ p2 p7 HIA.out hcp).mono ?_; rintro e wy ⟨rfl, hy⟩)
          exact hK _ (.agg (zb 64 (sclP p pa c))) _ (by simp only [Act.put, pA, pB, pC, e0, e2, e3]) ⟨hB.trans (hy.mono hB.size), (Nat.le_trans hz hy.size), (let ⟨g, h⟩ := x0; ⟨g, h.zw hy⟩), (fun h => (q0 h).below hy (q0 h).lt), (fun h => (n0 h).below hy (n0 h).lt), (let ⟨g, h⟩ := x1; ⟨g, h.zw hy⟩), (fun h => (q1 h).below hy (q1 h).lt), (fun h => (n1 h).below hy (n1 h).lt), (let ⟨g, h⟩ := x2; ⟨g, h.zw hy⟩), (fun h => (q2 h).below hy (q2 h).lt), (fun h => (n2 h).below hy (n2 h).lt), s3.zw hy, s4.zw hy, h0, h1, h2, h3, (fun _ => rfl), h5, h6, h7, h8, h9, h10, h11, h12, h13, h14⟩
        · go_wp2_with fail
          exact hK _ (.int .i64 (p : Int)) _ (by simp only [Act.put, pA, pB, pC ]) ⟨hB, hz, x0, q0, n0, x1, q1, n1, x2, q2, n2, s3, s4, h0, h1, h2, h3, h4, (fun _ => rfl), h6, h7, h8, h9, h10, h11, h12, h13, h14⟩
        · go_wp2_with fail
          exact hK _ (.pointer (some ⟨k1_6, 64, none⟩)) _ (by simp only [Act.put, pA, pB, pC ]) ⟨hB, hz, x0, q0, n0, x1, q1, n1, x2, q2, n2, s3, s4, h0, h1, h2, h3, h4, h5, (fun _ => rfl), h7, h8, h9, h10, h11, h12, h13, h14⟩
        · have e6 := h6 (zdq hd 6 rfl)
          refine wp_load_mid 28 _ rfl _ (64) e6 _ _ (s3.mid (by omega) (c3_1 _ _ _)) Try.underlying28 rfl (by rw [zl]; exact Try.size28) ?_
          exact hK _ _ _ rfl ⟨hB, hz, x0, q0, n0, x1, q1, n1, x2, q2, n2, s3, s4, h0, h1, h2, h3, h4, h5, h6, (fun _ => rfl), h8, h9, h10, h11, h12, h13, h14⟩
        · go_wp2_with fail
          exact hK _ (.int .u8 (c : Int)) _ (by simp only [Act.put, pA, pB, pC ]) ⟨hB, hz, x0, q0, n0, x1, q1, n1, x2, q2, n2, s3, s4, h0, h1, h2, h3, h4, h5, h6, h7, (fun _ => rfl), h9, h10, h11, h12, h13, h14⟩
        · have e5 := h5 (zdq hd 5 rfl)
          have e7 := h7 (zdq hd 7 rfl)
          have e8 := h8 (zdq hd 8 rfl)
          go_wp2_with (go_at_call 163; refine (scaled_any p pu c _ p2 p7 HIU.out hcp).mono ?_; rintro e wy ⟨rfl, hy⟩)
          exact hK _ (.agg (zb 64 (sclP p pu c))) _ (by simp only [Act.put, pA, pB, pC, e5, e7, e8]) ⟨hB.trans (hy.mono hB.size), (Nat.le_trans hz hy.size), (let ⟨g, h⟩ := x0; ⟨g, h.zw hy⟩), (fun h => (q0 h).below hy (q0 h).lt), (fun h => (n0 h).below hy (n0 h).lt), (let ⟨g, h⟩ := x1; ⟨g, h.zw hy⟩), (fun h => (q1 h).below hy (q1 h).lt), (fun h => (n1 h).below hy (n1 h).lt), (let ⟨g, h⟩ := x2; ⟨g, h.zw hy⟩), (fun h => (q2 h).below hy (q2 h).lt), (fun h => (n2 h).below hy (n2 h).lt), s3.zw hy, s4.zw hy, h0, h1, h2, h3, h4, h5, h6, h7, h8, (fun _ => rfl), h10, h11, h12, h13, h14⟩
        · go_wp2_with fail
          exact hK _ (.int .i64 (p : Int)) _ (by simp only [Act.put, pA, pB, pC ]) ⟨hB, hz, x0, q0, n0, x1, q1, n1, x2, q2, n2, s3, s4, h0, h1, h2, h3, h4, h5, h6, h7, h8, h9, (fun _ => rfl), h11, h12, h13, h14⟩
        · go_wp2_with fail
          exact hK _ (.pointer (some ⟨k1_6, 128, none⟩)) _ (by simp only [Act.put, pA, pB, pC ]) ⟨hB, hz, x0, q0, n0, x1, q1, n1, x2, q2, n2, s3, s4, h0, h1, h2, h3, h4, h5, h6, h7, h8, h9, h10, (fun _ => rfl), h12, h13, h14⟩
        · have e11 := h11 (zdq hd 11 rfl)
          refine wp_load_mid 28 _ rfl _ (128) e11 _ _ (s3.mid (by omega) (c3_2 _ _ _)) Try.underlying28 rfl (by rw [zl]; exact Try.size28) ?_
          exact hK _ _ _ rfl ⟨hB, hz, x0, q0, n0, x1, q1, n1, x2, q2, n2, s3, s4, h0, h1, h2, h3, h4, h5, h6, h7, h8, h9, h10, h11, (fun _ => rfl), h13, h14⟩
        · go_wp2_with fail
          exact hK _ (.int .u8 (c : Int)) _ (by simp only [Act.put, pA, pB, pC ]) ⟨hB, hz, x0, q0, n0, x1, q1, n1, x2, q2, n2, s3, s4, h0, h1, h2, h3, h4, h5, h6, h7, h8, h9, h10, h11, h12, (fun _ => rfl), h14⟩
        · have e10 := h10 (zdq hd 10 rfl)
          have e12 := h12 (zdq hd 12 rfl)
          have e13 := h13 (zdq hd 13 rfl)
          go_wp2_with (go_at_call 163; refine (scaled_any p pv c _ p2 p7 HIV.out hcp).mono ?_; rintro e wy ⟨rfl, hy⟩)
          exact hK _ (.agg (zb 64 (sclP p pv c))) _ (by simp only [Act.put, pA, pB, pC, e10, e12, e13]) ⟨hB.trans (hy.mono hB.size), (Nat.le_trans hz hy.size), (let ⟨g, h⟩ := x0; ⟨g, h.zw hy⟩), (fun h => (q0 h).below hy (q0 h).lt), (fun h => (n0 h).below hy (n0 h).lt), (let ⟨g, h⟩ := x1; ⟨g, h.zw hy⟩), (fun h => (q1 h).below hy (q1 h).lt), (fun h => (n1 h).below hy (n1 h).lt), (let ⟨g, h⟩ := x2; ⟨g, h.zw hy⟩), (fun h => (q2 h).below hy (q2 h).lt), (fun h => (n2 h).below hy (n2 h).lt), s3.zw hy, s4.zw hy, h0, h1, h2, h3, h4, h5, h6, h7, h8, h9, h10, h11, h12, h13, (fun _ => rfl)⟩
        · have e4 := h4 (zdq hd 4 rfl)
          obtain ⟨gz, hk⟩ := x0
          refine zsb 28 _ _ rfl _ 64 (sclP p pa c) rfl e4 28 gz hk Try.size28 ?_
          exact hK _ undef _ rfl ⟨zr hB (by omega) _, (by simpa [World.setRow] using hz), ⟨_, hk.row _⟩, (fun h => absurd h (by simp [setL])), (fun _ => hk.row _), (let ⟨g, h⟩ := x1; ⟨g, (h).rowOther (by omega)⟩), (fun h => (q1 h).rowOther (by omega)), (fun h => (n1 h).rowOther (by omega)), (let ⟨g, h⟩ := x2; ⟨g, (h).rowOther (by omega)⟩), (fun h => (q2 h).rowOther (by omega)), (fun h => (n2 h).rowOther (by omega)), (s3).rowOther (by omega), (s4).rowOther (by omega), h0, h1, h2, h3, h4, h5, h6, h7, h8, h9, h10, h11, h12, h13, h14⟩
        · have e9 := h9 (zdq hd 9 rfl)
          obtain ⟨gz, hk⟩ := x1
          refine zsb 28 _ _ rfl _ 64 (sclP p pu c) rfl e9 28 gz hk Try.size28 ?_
          exact hK _ undef _ rfl ⟨zr hB (by omega) _, (by simpa [World.setRow] using hz), (let ⟨g, h⟩ := x0; ⟨g, (h).rowOther (by omega)⟩), (fun h => (q0 h).rowOther (by omega)), (fun h => (n0 h).rowOther (by omega)), ⟨_, hk.row _⟩, (fun h => absurd h (by simp [setL])), (fun _ => hk.row _), (let ⟨g, h⟩ := x2; ⟨g, (h).rowOther (by omega)⟩), (fun h => (q2 h).rowOther (by omega)), (fun h => (n2 h).rowOther (by omega)), (s3).rowOther (by omega), (s4).rowOther (by omega), h0, h1, h2, h3, h4, h5, h6, h7, h8, h9, h10, h11, h12, h13, h14⟩
        · have e14 := h14 (zdq hd 14 rfl)
          obtain ⟨gz, hk⟩ := x2
          refine zsb 28 _ _ rfl _ 64 (sclP p pv c) rfl e14 28 gz hk Try.size28 ?_
          exact hK _ undef _ rfl ⟨zr hB (by omega) _, (by simpa [World.setRow] using hz), (let ⟨g, h⟩ := x0; ⟨g, (h).rowOther (by omega)⟩), (fun h => (q0 h).rowOther (by omega)), (fun h => (n0 h).rowOther (by omega)), (let ⟨g, h⟩ := x1; ⟨g, (h).rowOther (by omega)⟩), (fun h => (q1 h).rowOther (by omega)), (fun h => (n1 h).rowOther (by omega)), ⟨_, hk.row _⟩, (fun h => absurd h (by simp [setL])), (fun _ => hk.row _), (s3).rowOther (by omega), (s4).rowOther (by omega), h0, h1, h2, h3, h4, h5, h6, h7, h8, h9, h10, h11, h12, h13, h14⟩
      · intro L v W4 hL ⟨hB, hz, x0, q0, n0, x1, q1, n1, x2, q2, n2, s3, s4, h0, h1, h2, h3, h4, h5, h6, h7, h8, h9, h10, h11, h12, h13, h14⟩
        have r0 := n0 (hL 15 (by decide))
        have r1 := n1 (hL 16 (by decide))
        have r2 := n2 (hL 17 (by decide))
        have e0 := h0 (hL 0 (by decide))
        have e1 := h1 (hL 1 (by decide))
        have e2 := h2 (hL 2 (by decide))
        have e3 := h3 (hL 3 (by decide))
        have e4 := h4 (hL 4 (by decide))
        have e5 := h5 (hL 5 (by decide))
        have e6 := h6 (hL 6 (by decide))
        have e7 := h7 (hL 7 (by decide))
        have e8 := h8 (hL 8 (by decide))
        have e9 := h9 (hL 9 (by decide))
        have e10 := h10 (hL 10 (by decide))
        have e11 := h11 (hL 11 (by decide))
        have e12 := h12 (hL 12 (by decide))
        have e13 := h13 (hL 13 (by decide))
        have e14 := h14 (hL 14 (by decide))
        clear hL x0 q0 n0 x1 q1 n1 x2 q2 n2 h0 h1 h2 h3 h4 h5 h6 h7 h8 h9 h10 h11 h12 h13 h14
        simp only [Exit.then, e0, e1, e2, e3, e4, e5, e6, e7, e8, e9, e10, e11, e12, e13, e14]
        clear e0 e1 e2 e3 e4 e5 e6 e7 e8 e9 e10 e11 e12 e13 e14
        replace B2 := r0
        clear r0
        replace B3 := r1
        clear r1
        replace B4 := r2
        clear r2
        replace B5 := s3
        clear s3
        replace B6 := s4
        clear s4
        replace hb := hB
        clear hB
        clear hbase hz lt_B2 lt_B3 lt_B4 lt_B5 lt_B6
        go_wp2_with fail
        refine bodyPost_ret (results_bbb rfl _ _ _ 64 28 5 _ _ 64 28 5 _ _ 64 28 5 _ rfl B2 Try.underlying28 Try.size28 rfl B3 Try.underlying28 Try.size28 rfl B4 Try.underlying28 Try.size28) rfl ⟨by rw [HR.out.1, HR.out.2.1, HR.out.2.2], hb⟩
    · obtain ⟨k, rfl⟩ : ∃ j, k = j + 1 := ⟨k - 1, by omega⟩
      have heq := fun W => zeb (P := Try.prog) W 9998 28 5 64 pb (fun _ => 0) Try.underlying28 Try.underlying5 Try.size5
      rw [eqN_zero, show decide (deg pb < 0) = false by simp [hz]] at heq
      simp only [z64] at heq
      obtain ⟨hI', hdr, hdx, hdy⟩ := bzI_next hp hI hz
      have HI' := Lib.hid hI'
      have HRN := Lib.hid (hrun.trans (bzRun_go hz))
      have HDR := Lib.hid hdr
      have HL := Lib.hid (fun W => quotientAndRest_any p pa pb W hp ia ib (by omega))
      have B6o := B6
      have HIX := Lib.hid ix; have HIY := Lib.hid iy; have HIU := Lib.hid iu; have HIV := Lib.hid iv
      clear hrun hI hI' hdr hdx hdy ia ib ix iy iu iv d1 d2 d3 d4 d5
      go_upto_region 3 with (first | (refine wpList_load_mid (op := ⟨some 23, _, _, _, _, _⟩) rfl 28 (.tmp 22) rfl _ 0 rfl (bl 64 pb) _ (B6.mid (by omega) (c3_0 _ _ _)) Try.underlying28 rfl (by rw [zl]; exact Try.size28) ?_))
      clear heq hgd
      have lt_B2 := B2.lt
      have lt_B3 := B3.lt
      have lt_B4 := B4.lt
      have lt_B5 := B5.lt
      have lt_B6 := B6.lt
      go_upto_region 4 with (first | rw [← z64] | (refine wpList_load_mid (op := ⟨some 29, _, _, _, _, _⟩) rfl 28 (.tmp 28) rfl _ 0 rfl (bl 64 (pa)) _ ((B5).mid (by omega) (c3_0 _ _ _)) Try.underlying28 rfl (by rw [zl]; exact Try.size28) ?_) | (refine wpList_load_mid (op := ⟨some 31, _, _, _, _, _⟩) rfl 28 (.tmp 30) rfl _ 0 rfl (bl 64 (pb)) _ ((B6).mid (by omega) (c3_0 _ _ _)) Try.underlying28 rfl (by rw [zl]; exact Try.size28) ?_) | (go_at_call 115; refine (HL.out _).mono ?_; rintro e W3 ⟨rfl, hW3⟩; replace B2 := B2.zw hW3; replace B3 := B3.zw hW3; replace B4 := B4.zw hW3; replace B5 := B5.zw hW3; replace B6 := B6.zw hW3; replace hb := (hb).trans (hW3.mono (hb).size)) | (refine wpList_store_blk (o := ⟨none, .store 28 (.tmp 11) (.tmp 33), _, _, _, _⟩) rfl 28 (.tmp 11) (.tmp 33) rfl _ 64 (quoP p pa pb) rfl rfl 28 _ (((Blk.new W3 64 28 (fun _ => 0)).alloc (.cells (zb 64 fun _ => 0) 28))) Try.size28 ?_) | (refine wpList_store_blk (o := ⟨none, .store 28 (.tmp 12) (.tmp 34), _, _, _, _⟩) rfl 28 (.tmp 12) (.tmp 34) rfl _ 64 (resP p pa pb) rfl rfl 28 _ (((show Blk ((W3.alloc (.cells (zb 64 fun _ => 0) 28)).alloc (.cells (zb 64 fun _ => 0) 28)) (W3.heap.size + 1) 64 28 (fun _ => 0) by have := Blk.new (W3.alloc (.cells (zb 64 fun _ => 0) 28)) 64 28 (fun _ => 0); simpa using this).rowOther (by omega))) Try.size28 ?_))
      have lt_B2 := B2.lt
      have lt_B3 := B3.lt
      have lt_B4 := B4.lt
      have lt_B5 := B5.lt
      have lt_B6 := B6.lt
      have lhb := hb.size
      obtain ⟨W4, hwo, hzQ⟩ : ∃ v : World, v = ((((W3.alloc (.cells (zb 64 fun _ => 0) 28)).alloc (.cells (zb 64 fun _ => 0) 28)).setRow (W3.heap.size) (zb 64 (quoP p pa pb))).setRow (W3.heap.size + 1) (zb 64 (resP p pa pb))) ∧ Blk v (w.heap.size + 1 + 1) 64 28 (fun _ => 0) ∧ Blk v (w.heap.size + 1 + 1 + 1) 64 28 (fun _ => 0) ∧ Blk v (w.heap.size + 1 + 1 + 1 + 1) 64 28 (fun _ => 0) ∧ Blk v (k1_6) 192 169 (c3 pa pu pv) ∧ Blk v (k1_7) 192 169 (c3 pb px py) ∧ Blk v (W3.heap.size) 64 28 (quoP p pa pb) ∧ Blk v (W3.heap.size + 1) 64 28 (resP p pa pb) ∧ Below w.heap.size w v := ⟨_, rfl, ((((B2.alloc (.cells (zb 64 fun _ => 0) 28)).alloc (.cells (zb 64 fun _ => 0) 28)).rowOther (by omega)).rowOther (by omega)), ((((B3.alloc (.cells (zb 64 fun _ => 0) 28)).alloc (.cells (zb 64 fun _ => 0) 28)).rowOther (by omega)).rowOther (by omega)), ((((B4.alloc (.cells (zb 64 fun _ => 0) 28)).alloc (.cells (zb 64 fun _ => 0) 28)).rowOther (by omega)).rowOther (by omega)), ((((B5.alloc (.cells (zb 64 fun _ => 0) 28)).alloc (.cells (zb 64 fun _ => 0) 28)).rowOther (by omega)).rowOther (by omega)), ((((B6.alloc (.cells (zb 64 fun _ => 0) 28)).alloc (.cells (zb 64 fun _ => 0) 28)).rowOther (by omega)).rowOther (by omega)), ((((Blk.new W3 64 28 (fun _ => 0)).alloc (.cells (zb 64 fun _ => 0) 28)).row (quoP p pa pb)).rowOther (by omega)), (((show Blk ((W3.alloc (.cells (zb 64 fun _ => 0) 28)).alloc (.cells (zb 64 fun _ => 0) 28)) (W3.heap.size + 1) 64 28 (fun _ => 0) by have := Blk.new (W3.alloc (.cells (zb 64 fun _ => 0) 28)) 64 28 (fun _ => 0); simpa using this).rowOther (by omega)).row (resP p pa pb)), (zr (zr ((hb.alloc (by have := hb.size; simp; omega) (.cells (zb 64 fun _ => 0) 28)).alloc (by have := hb.size; simp; omega) (.cells (zb 64 fun _ => 0) 28)) (by omega) _) (by omega) _)⟩
      rw [← hwo]
      clear hwo B2 B3 B4 B5 B6 hb
      obtain ⟨B2, B3, B4, B5, B6, B7, B8, hb⟩ := hzQ
      obtain ⟨N1, hNN⟩ : ∃ n : Nat, n = W3.heap.size := ⟨_, rfl⟩
      rw [← hNN] at lt_B2 lt_B3 lt_B4 lt_B5 lt_B6 lhb B7 B8 ⊢
      clear hNN
      have zN1_2 := lt_B2
      have zN1_3 := lt_B3
      have zN1_4 := lt_B4
      have zN1_5 := lt_B5
      have zN1_6 := lt_B6
      have zN1 := lhb
      clear lt_B2 lt_B3 lt_B4 lt_B5 lt_B6 lhb
      try simp only [Act.put, pA, pB, pC]
      clear HL
      have lt_B2 : (w.heap.size + 1 + 1) < W4.heap.size := B2.lt
      have lt_B3 : (w.heap.size + 1 + 1 + 1) < W4.heap.size := B3.lt
      have lt_B4 : (w.heap.size + 1 + 1 + 1 + 1) < W4.heap.size := B4.lt
      have lt_B5 : (k1_6) < W4.heap.size := B5.lt
      have lt_B6 : (k1_7) < W4.heap.size := B6.lt
      have lt_B7 : (N1) < W4.heap.size := B7.lt
      have lt_B8 : (N1 + 1) < W4.heap.size := B8.lt
      have hbase : w.heap.size ≤ W4.heap.size := hb.size
      refine zq Try.mixed (by kernel_rfl) (by kernel_rfl) (fun v => by (simp only [frL, Act.put, pA, pB, pC, Nat.reduceAdd, Nat.zero_add]; exact rfl))
       (fun L v W5 => Below w.heap.size w W5 ∧ W4.heap.size ≤ W5.heap.size ∧ Blk W5 (w.heap.size + 1 + 1) 64 28 (fun _ => 0) ∧ Blk W5 (w.heap.size + 1 + 1 + 1) 64 28 (fun _ => 0) ∧ Blk W5 (w.heap.size + 1 + 1 + 1 + 1) 64 28 (fun _ => 0) ∧ Blk W5 (k1_6) 192 169 (c3 pa pu pv) ∧ Blk W5 (k1_7) 192 169 (c3 pb px py) ∧ Blk W5 (N1) 64 28 (quoP p pa pb) ∧ Blk W5 (N1 + 1) 64 28 (resP p pa pb) ∧ (L 0 = true → v 0 = (.int .i64 (p : Int))) ∧ (L 1 = true → v 1 = (.pointer (some ⟨k1_6, 64, none⟩))) ∧ (L 2 = true → v 2 = (.agg (zb 64 (pu)))) ∧ (L 3 = true → v 3 = (.int .i64 (p : Int))) ∧ (L 4 = true → v 4 = (.agg (zb 64 (quoP p pa pb)))) ∧ (L 5 = true → v 5 = (.pointer (some ⟨k1_7, 64, none⟩))) ∧ (L 6 = true → v 6 = (.agg (zb 64 (px)))) ∧ (L 7 = true → v 7 = (.agg (zb 64 (prd p (quoP p pa pb) px)))) ∧ (L 8 = true → v 8 = (.agg (zb 64 (subP p pu (prd p (quoP p pa pb) px))))) ∧ (L 9 = true → AF (v 9) W5 W4.heap.size 64 28) ∧ (L 10 = true → PF (v 9) W5 W4.heap.size 64 28 (subP p pu (prd p (quoP p pa pb) px)))) ?_ ?_ ?_
      · intro v hv0
        exact ⟨hb.drew, Nat.le_refl _, B2.drew, B3.drew, B4.drew, B5.drew, B6.drew, B7.drew, B8.drew, (fun h => by cases h), (fun h => by cases h), (fun h => by cases h), (fun h => by cases h), (fun h => by cases h), (fun h => by cases h), (fun h => by cases h), (fun h => by cases h), (fun h => by cases h), (fun h => by cases h), (fun h => by cases h)⟩
      · refine (.cons rfl ?_ (.cons rfl ?_ (.cons rfl ?_ (.cons rfl ?_ (.cons rfl ?_ (.cons rfl ?_ (.cons rfl ?_ (.cons rfl ?_ (.cons rfl ?_ (.cons rfl ?_ (.cons rfl ?_ (.nil _))))))))))))
        all_goals intro L v W5 hd hn ⟨hB, hz, s0, s1, s2, s3, s4, s5, s6, h0, h1, h2, h3, h4, h5, h6, h7, h8, h9, h10⟩ K hK
        · go_wp2_with fail
          exact hK _ (.int .i64 (p : Int)) _ (by simp only [Act.put, pA, pB, pC ]) ⟨hB, hz, s0, s1, s2, s3, s4, s5, s6, (fun _ => rfl), h1, h2, h3, h4, h5, h6, h7, h8, h9, h10⟩
        · go_wp2_with fail
          exact hK _ (.pointer (some ⟨k1_6, 64, none⟩)) _ (by simp only [Act.put, pA, pB, pC ]) ⟨hB, hz, s0, s1, s2, s3, s4, s5, s6, h0, (fun _ => rfl), h2, h3, h4, h5, h6, h7, h8, h9, h10⟩
        · have e1 := h1 (zdq hd 1 rfl)
          refine wp_load_mid 28 _ rfl _ (64) e1 _ _ (s3.mid (by omega) (c3_1 _ _ _)) Try.underlying28 rfl (by rw [zl]; exact Try.size28) ?_
          exact hK _ _ _ rfl ⟨hB, hz, s0, s1, s2, s3, s4, s5, s6, h0, h1, (fun _ => rfl), h3, h4, h5, h6, h7, h8, h9, h10⟩
        · go_wp2_with fail
          exact hK _ (.int .i64 (p : Int)) _ (by simp only [Act.put, pA, pB, pC ]) ⟨hB, hz, s0, s1, s2, s3, s4, s5, s6, h0, h1, h2, (fun _ => rfl), h4, h5, h6, h7, h8, h9, h10⟩
        · refine zlc s5 Try.underlying28 Try.size28 ?_
          exact hK _ _ _ rfl ⟨hB, hz, s0, s1, s2, s3, s4, s5, s6, h0, h1, h2, h3, (fun _ => rfl), h5, h6, h7, h8, h9, h10⟩
        · go_wp2_with fail
          exact hK _ (.pointer (some ⟨k1_7, 64, none⟩)) _ (by simp only [Act.put, pA, pB, pC ]) ⟨hB, hz, s0, s1, s2, s3, s4, s5, s6, h0, h1, h2, h3, h4, (fun _ => rfl), h6, h7, h8, h9, h10⟩
        · have e5 := h5 (zdq hd 5 rfl)
          refine wp_load_mid 28 _ rfl _ (64) e5 _ _ (s4.mid (by omega) (c3_1 _ _ _)) Try.underlying28 rfl (by rw [zl]; exact Try.size28) ?_
          exact hK _ _ _ rfl ⟨hB, hz, s0, s1, s2, s3, s4, s5, s6, h0, h1, h2, h3, h4, h5, (fun _ => rfl), h7, h8, h9, h10⟩
        · have e3 := h3 (zdq hd 3 rfl)
          have e4 := h4 (zdq hd 4 rfl)
          have e6 := h6 (zdq hd 6 rfl)
          go_wp2_with (go_at_call 118; refine (product_any p (quoP p pa pb) px _ p2 p7 (fun i _ => quoP_lt p0 i) HIX.out).mono ?_; rintro e wy ⟨rfl, hy⟩)
          exact hK _ (.agg (zb 64 (prd p (quoP p pa pb) px))) _ (by simp only [Act.put, pA, pB, pC, e3, e4, e6]) ⟨hB.trans (hy.mono hB.size), (Nat.le_trans hz hy.size), s0.zw hy, s1.zw hy, s2.zw hy, s3.zw hy, s4.zw hy, s5.zw hy, s6.zw hy, h0, h1, h2, h3, h4, h5, h6, (fun _ => rfl), h8, (fun h => (h9 h).below hy), (fun h => (h10 h).below hy)⟩
        · have e0 := h0 (zdq hd 0 rfl)
          have e2 := h2 (zdq hd 2 rfl)
          have e7 := h7 (zdq hd 7 rfl)
          go_wp2_with (go_at_call 59; refine (differenceS_any p pu (prd p (quoP p pa pb) px) _ p2 p7 HIU.out (fun i _ => prd_lt p0 i)).mono ?_; rintro e wy ⟨rfl, hy⟩)
          exact hK _ (.agg (zb 64 (subP p pu (prd p (quoP p pa pb) px)))) _ (by simp only [Act.put, pA, pB, pC, e0, e2, e7]) ⟨hB.trans (hy.mono hB.size), (Nat.le_trans hz hy.size), s0.zw hy, s1.zw hy, s2.zw hy, s3.zw hy, s4.zw hy, s5.zw hy, s6.zw hy, h0, h1, h2, h3, h4, h5, h6, h7, (fun _ => rfl), (fun h => (h9 h).below hy), (fun h => (h10 h).below hy)⟩
        · go_wp2_with fail
          rw [← z64]
          exact hK _ (.pointer (some ⟨W5.heap.size, 0, none⟩)) _ (by simp only [Act.put, pA, pB, pC ]) ⟨hB.alloc hB.size _, (by simp; omega), (s0).alloc _, (s1).alloc _, (s2).alloc _, (s3).alloc _, (s4).alloc _, (s5).alloc _, (s6).alloc _, h0, h1, h2, h3, h4, h5, h6, h7, h8, (fun _ => (PF.new W5 64 28 _ hz).af), (fun h => absurd rfl (hn 10 _ rfl h ⟨9, .data⟩ (by simp) rfl))⟩
        · have e8 := h8 (zdq hd 8 rfl)
          obtain ⟨gz, b, ea, hN, hk⟩ := (h9 (zdq hd 9 rfl)).out
          refine zsb 28 _ _ rfl b 64 (subP p pu (prd p (quoP p pa pb) px)) ea e8 28 gz hk Try.size28 ?_
          exact hK _ undef _ rfl ⟨zr hB (Nat.le_trans hbase hN) _, (by simpa [World.setRow] using hz), (s0).rowOther (by omega), (s1).rowOther (by omega), (s2).rowOther (by omega), (s3).rowOther (by omega), (s4).rowOther (by omega), (s5).rowOther (by omega), (s6).rowOther (by omega), h0, h1, h2, h3, h4, h5, h6, h7, h8, (fun h => (h9 h).row hk), (fun _ => by rw [show updV v 10 undef 9 = v 9 from rfl, ea]; exact PF.row hk hN _)⟩
      · intro L v W5 hL ⟨hB, hz, s0, s1, s2, s3, s4, s5, s6, h0, h1, h2, h3, h4, h5, h6, h7, h8, h9, h10⟩
        have e0 := h0 (hL 0 (by decide))
        have e1 := h1 (hL 1 (by decide))
        have e2 := h2 (hL 2 (by decide))
        have e3 := h3 (hL 3 (by decide))
        have e4 := h4 (hL 4 (by decide))
        have e5 := h5 (hL 5 (by decide))
        have e6 := h6 (hL 6 (by decide))
        have e7 := h7 (hL 7 (by decide))
        have e8 := h8 (hL 8 (by decide))
        obtain ⟨k4_9, e9, hNk4_9, hk4_9⟩ := (h10 (hL 10 (by decide))).out
        clear hL h0 h1 h2 h3 h4 h5 h6 h7 h8 h9 h10
        simp only [Exit.then, e0, e1, e2, e3, e4, e5, e6, e7, e8, e9]
        clear e0 e1 e2 e3 e4 e5 e6 e7 e8 e9
        replace B2 := s0
        clear s0
        replace B3 := s1
        clear s1
        replace B4 := s2
        clear s2
        replace B5 := s3
        clear s3
        replace B6 := s4
        clear s4
        replace B7 := s5
        clear s5
        replace B8 := s6
        clear s6
        replace hb := hB
        clear hB
        have B9 := hk4_9
        clear hk4_9
        have zk4_9_2 : w.heap.size + 1 + 1 < k4_9 := by omega
        have zk4_9_3 : w.heap.size + 1 + 1 + 1 < k4_9 := by omega
        have zk4_9_4 : w.heap.size + 1 + 1 + 1 + 1 < k4_9 := by omega
        have zk4_9_5 : k1_6 < k4_9 := by omega
        have zk4_9_6 : k1_7 < k4_9 := by omega
        have zk4_9_7 : N1 < k4_9 := by omega
        have zk4_9_8 : N1 + 1 < k4_9 := by omega
        clear hbase hz lt_B2 lt_B3 lt_B4 lt_B5 lt_B6 lt_B7 lt_B8
        go_upto_region 5 with (fail)
        have lt_B2 : (w.heap.size + 1 + 1) < W5.heap.size := B2.lt
        have lt_B3 : (w.heap.size + 1 + 1 + 1) < W5.heap.size := B3.lt
        have lt_B4 : (w.heap.size + 1 + 1 + 1 + 1) < W5.heap.size := B4.lt
        have lt_B5 : (k1_6) < W5.heap.size := B5.lt
        have lt_B6 : (k1_7) < W5.heap.size := B6.lt
        have lt_B7 : (N1) < W5.heap.size := B7.lt
        have lt_B8 : (N1 + 1) < W5.heap.size := B8.lt
        have lt_B9 : (k4_9) < W5.heap.size := B9.lt
        have hbase : w.heap.size ≤ W5.heap.size := hb.size
        refine zq Try.mixed (by kernel_rfl) (by kernel_rfl) (fun v => by (simp only [frL, Act.put, pA, pB, pC, Nat.reduceAdd, Nat.zero_add]; exact rfl))
         (fun L v W6 => Below w.heap.size w W6 ∧ W5.heap.size ≤ W6.heap.size ∧ Blk W6 (w.heap.size + 1 + 1) 64 28 (fun _ => 0) ∧ Blk W6 (w.heap.size + 1 + 1 + 1) 64 28 (fun _ => 0) ∧ Blk W6 (w.heap.size + 1 + 1 + 1 + 1) 64 28 (fun _ => 0) ∧ Blk W6 (k1_6) 192 169 (c3 pa pu pv) ∧ Blk W6 (k1_7) 192 169 (c3 pb px py) ∧ Blk W6 (N1) 64 28 (quoP p pa pb) ∧ Blk W6 (N1 + 1) 64 28 (resP p pa pb) ∧ Blk W6 (k4_9) 64 28 (subP p pu (prd p (quoP p pa pb) px)) ∧ (L 0 = true → v 0 = (.int .i64 (p : Int))) ∧ (L 1 = true → v 1 = (.pointer (some ⟨k1_6, 128, none⟩))) ∧ (L 2 = true → v 2 = (.agg (zb 64 (pv)))) ∧ (L 3 = true → v 3 = (.int .i64 (p : Int))) ∧ (L 4 = true → v 4 = (.agg (zb 64 (quoP p pa pb)))) ∧ (L 5 = true → v 5 = (.pointer (some ⟨k1_7, 128, none⟩))) ∧ (L 6 = true → v 6 = (.agg (zb 64 (py)))) ∧ (L 7 = true → v 7 = (.agg (zb 64 (prd p (quoP p pa pb) py)))) ∧ (L 8 = true → v 8 = (.agg (zb 64 (subP p pv (prd p (quoP p pa pb) py))))) ∧ (L 9 = true → AF (v 9) W6 W5.heap.size 64 28) ∧ (L 10 = true → PF (v 9) W6 W5.heap.size 64 28 (subP p pv (prd p (quoP p pa pb) py)))) ?_ ?_ ?_
        · intro v hv0
          exact ⟨hb.drew, Nat.le_refl _, B2.drew, B3.drew, B4.drew, B5.drew, B6.drew, B7.drew, B8.drew, B9.drew, (fun h => by cases h), (fun h => by cases h), (fun h => by cases h), (fun h => by cases h), (fun h => by cases h), (fun h => by cases h), (fun h => by cases h), (fun h => by cases h), (fun h => by cases h), (fun h => by cases h), (fun h => by cases h)⟩
        · refine (.cons rfl ?_ (.cons rfl ?_ (.cons rfl ?_ (.cons rfl ?_ (.cons rfl ?_ (.cons rfl ?_ (.cons rfl ?_ (.cons rfl ?_ (.cons rfl ?_ (.cons rfl ?_ (.cons rfl ?_ (.nil _))))))))))))
          all_goals intro L v W6 hd hn ⟨hB, hz, s0, s1, s2, s3, s4, s5, s6, s7, h0, h1, h2, h3, h4, h5, h6, h7, h8, h9, h10⟩ K hK
          · go_wp2_with fail
            exact hK _ (.int .i64 (p : Int)) _ (by simp only [Act.put, pA, pB, pC ]) ⟨hB, hz, s0, s1, s2, s3, s4, s5, s6, s7, (fun _ => rfl), h1, h2, h3, h4, h5, h6, h7, h8, h9, h10⟩
          · go_wp2_with fail
            exact hK _ (.pointer (some ⟨k1_6, 128, none⟩)) _ (by simp only [Act.put, pA, pB, pC ]) ⟨hB, hz, s0, s1, s2, s3, s4, s5, s6, s7, h0, (fun _ => rfl), h2, h3, h4, h5, h6, h7, h8, h9, h10⟩
          · have e1 := h1 (zdq hd 1 rfl)
            refine wp_load_mid 28 _ rfl _ (128) e1 _ _ (s3.mid (by omega) (c3_2 _ _ _)) Try.underlying28 rfl (by rw [zl]; exact Try.size28) ?_
            exact hK _ _ _ rfl ⟨hB, hz, s0, s1, s2, s3, s4, s5, s6, s7, h0, h1, (fun _ => rfl), h3, h4, h5, h6, h7, h8, h9, h10⟩
          · go_wp2_with fail
            exact hK _ (.int .i64 (p : Int)) _ (by simp only [Act.put, pA, pB, pC ]) ⟨hB, hz, s0, s1, s2, s3, s4, s5, s6, s7, h0, h1, h2, (fun _ => rfl), h4, h5, h6, h7, h8, h9, h10⟩
          · refine zlc s5 Try.underlying28 Try.size28 ?_
            exact hK _ _ _ rfl ⟨hB, hz, s0, s1, s2, s3, s4, s5, s6, s7, h0, h1, h2, h3, (fun _ => rfl), h5, h6, h7, h8, h9, h10⟩
          · go_wp2_with fail
            exact hK _ (.pointer (some ⟨k1_7, 128, none⟩)) _ (by simp only [Act.put, pA, pB, pC ]) ⟨hB, hz, s0, s1, s2, s3, s4, s5, s6, s7, h0, h1, h2, h3, h4, (fun _ => rfl), h6, h7, h8, h9, h10⟩
          · have e5 := h5 (zdq hd 5 rfl)
            refine wp_load_mid 28 _ rfl _ (128) e5 _ _ (s4.mid (by omega) (c3_2 _ _ _)) Try.underlying28 rfl (by rw [zl]; exact Try.size28) ?_
            exact hK _ _ _ rfl ⟨hB, hz, s0, s1, s2, s3, s4, s5, s6, s7, h0, h1, h2, h3, h4, h5, (fun _ => rfl), h7, h8, h9, h10⟩
          · have e3 := h3 (zdq hd 3 rfl)
            have e4 := h4 (zdq hd 4 rfl)
            have e6 := h6 (zdq hd 6 rfl)
            go_wp2_with (go_at_call 118; refine (product_any p (quoP p pa pb) py _ p2 p7 (fun i _ => quoP_lt p0 i) HIY.out).mono ?_; rintro e wy ⟨rfl, hy⟩)
            exact hK _ (.agg (zb 64 (prd p (quoP p pa pb) py))) _ (by simp only [Act.put, pA, pB, pC, e3, e4, e6]) ⟨hB.trans (hy.mono hB.size), (Nat.le_trans hz hy.size), s0.zw hy, s1.zw hy, s2.zw hy, s3.zw hy, s4.zw hy, s5.zw hy, s6.zw hy, s7.zw hy, h0, h1, h2, h3, h4, h5, h6, (fun _ => rfl), h8, (fun h => (h9 h).below hy), (fun h => (h10 h).below hy)⟩
          · have e0 := h0 (zdq hd 0 rfl)
            have e2 := h2 (zdq hd 2 rfl)
            have e7 := h7 (zdq hd 7 rfl)
            go_wp2_with (go_at_call 59; refine (differenceS_any p pv (prd p (quoP p pa pb) py) _ p2 p7 HIV.out (fun i _ => prd_lt p0 i)).mono ?_; rintro e wy ⟨rfl, hy⟩)
            exact hK _ (.agg (zb 64 (subP p pv (prd p (quoP p pa pb) py)))) _ (by simp only [Act.put, pA, pB, pC, e0, e2, e7]) ⟨hB.trans (hy.mono hB.size), (Nat.le_trans hz hy.size), s0.zw hy, s1.zw hy, s2.zw hy, s3.zw hy, s4.zw hy, s5.zw hy, s6.zw hy, s7.zw hy, h0, h1, h2, h3, h4, h5, h6, h7, (fun _ => rfl), (fun h => (h9 h).below hy), (fun h => (h10 h).below hy)⟩
          · go_wp2_with fail
            rw [← z64]
            exact hK _ (.pointer (some ⟨W6.heap.size, 0, none⟩)) _ (by simp only [Act.put, pA, pB, pC ]) ⟨hB.alloc hB.size _, (by simp; omega), (s0).alloc _, (s1).alloc _, (s2).alloc _, (s3).alloc _, (s4).alloc _, (s5).alloc _, (s6).alloc _, (s7).alloc _, h0, h1, h2, h3, h4, h5, h6, h7, h8, (fun _ => (PF.new W6 64 28 _ hz).af), (fun h => absurd rfl (hn 10 _ rfl h ⟨9, .data⟩ (by simp) rfl))⟩
          · have e8 := h8 (zdq hd 8 rfl)
            obtain ⟨gz, b, ea, hN, hk⟩ := (h9 (zdq hd 9 rfl)).out
            refine zsb 28 _ _ rfl b 64 (subP p pv (prd p (quoP p pa pb) py)) ea e8 28 gz hk Try.size28 ?_
            exact hK _ undef _ rfl ⟨zr hB (Nat.le_trans hbase hN) _, (by simpa [World.setRow] using hz), (s0).rowOther (by omega), (s1).rowOther (by omega), (s2).rowOther (by omega), (s3).rowOther (by omega), (s4).rowOther (by omega), (s5).rowOther (by omega), (s6).rowOther (by omega), (s7).rowOther (by omega), h0, h1, h2, h3, h4, h5, h6, h7, h8, (fun h => (h9 h).row hk), (fun _ => by rw [show updV v 10 undef 9 = v 9 from rfl, ea]; exact PF.row hk hN _)⟩
        · intro L v W6 hL ⟨hB, hz, s0, s1, s2, s3, s4, s5, s6, s7, h0, h1, h2, h3, h4, h5, h6, h7, h8, h9, h10⟩
          have e0 := h0 (hL 0 (by decide))
          have e1 := h1 (hL 1 (by decide))
          have e2 := h2 (hL 2 (by decide))
          have e3 := h3 (hL 3 (by decide))
          have e4 := h4 (hL 4 (by decide))
          have e5 := h5 (hL 5 (by decide))
          have e6 := h6 (hL 6 (by decide))
          have e7 := h7 (hL 7 (by decide))
          have e8 := h8 (hL 8 (by decide))
          obtain ⟨k5_9, e9, hNk5_9, hk5_9⟩ := (h10 (hL 10 (by decide))).out
          clear hL h0 h1 h2 h3 h4 h5 h6 h7 h8 h9 h10
          simp only [Exit.then, e0, e1, e2, e3, e4, e5, e6, e7, e8, e9]
          clear e0 e1 e2 e3 e4 e5 e6 e7 e8 e9
          replace B2 := s0
          clear s0
          replace B3 := s1
          clear s1
          replace B4 := s2
          clear s2
          replace B5 := s3
          clear s3
          replace B6 := s4
          clear s4
          replace B7 := s5
          clear s5
          replace B8 := s6
          clear s6
          replace B9 := s7
          clear s7
          replace hb := hB
          clear hB
          have B10 := hk5_9
          clear hk5_9
          have zk5_9_2 : w.heap.size + 1 + 1 < k5_9 := by omega
          have zk5_9_3 : w.heap.size + 1 + 1 + 1 < k5_9 := by omega
          have zk5_9_4 : w.heap.size + 1 + 1 + 1 + 1 < k5_9 := by omega
          have zk5_9_5 : k1_6 < k5_9 := by omega
          have zk5_9_6 : k1_7 < k5_9 := by omega
          have zk5_9_7 : N1 < k5_9 := by omega
          have zk5_9_8 : N1 + 1 < k5_9 := by omega
          have zk5_9_9 : k4_9 < k5_9 := by omega
          clear hbase hz lt_B2 lt_B3 lt_B4 lt_B5 lt_B6 lt_B7 lt_B8 lt_B9
          go_upto_region 6 with (fail)
          have lt_B2 : (w.heap.size + 1 + 1) < W6.heap.size := B2.lt
          have lt_B3 : (w.heap.size + 1 + 1 + 1) < W6.heap.size := B3.lt
          have lt_B4 : (w.heap.size + 1 + 1 + 1 + 1) < W6.heap.size := B4.lt
          have lt_B5 : (k1_6) < W6.heap.size := B5.lt
          have lt_B6 : (k1_7) < W6.heap.size := B6.lt
          have lt_B7 : (N1) < W6.heap.size := B7.lt
          have lt_B8 : (N1 + 1) < W6.heap.size := B8.lt
          have lt_B9 : (k4_9) < W6.heap.size := B9.lt
          have lt_B10 : (k5_9) < W6.heap.size := B10.lt
          have hbase : w.heap.size ≤ W6.heap.size := hb.size
          refine zq Try.mixed (by kernel_rfl) (by kernel_rfl) (fun v => by (simp only [frL, Act.put, pA, pB, pC, Nat.reduceAdd, Nat.zero_add]; exact rfl))
           (fun L v W7 => Below w.heap.size w W7 ∧ W6.heap.size ≤ W7.heap.size ∧ Blk W7 (w.heap.size + 1 + 1) 64 28 (fun _ => 0) ∧ Blk W7 (w.heap.size + 1 + 1 + 1) 64 28 (fun _ => 0) ∧ Blk W7 (w.heap.size + 1 + 1 + 1 + 1) 64 28 (fun _ => 0) ∧ (∃ g, Blk W7 (k1_6) 192 169 (g)) ∧ (L 5 = false → Blk W7 (k1_6) 192 169 (c3 pa pu pv)) ∧ (L 5 = true → Blk W7 (k1_6) 192 169 (c3 pb px py)) ∧ (∃ g, Blk W7 (k1_7) 192 169 (g)) ∧ (L 6 = false → Blk W7 (k1_7) 192 169 (c3 pb px py)) ∧ (L 6 = true → Blk W7 (k1_7) 192 169 (c3 (resP p pa pb) (subP p pu (prd p (quoP p pa pb) px)) (subP p pv (prd p (quoP p pa pb) py)))) ∧ Blk W7 (N1) 64 28 (quoP p pa pb) ∧ Blk W7 (N1 + 1) 64 28 (resP p pa pb) ∧ Blk W7 (k4_9) 64 28 (subP p pu (prd p (quoP p pa pb) px)) ∧ Blk W7 (k5_9) 64 28 (subP p pv (prd p (quoP p pa pb) py)) ∧ (L 0 = true → v 0 = (.agg (zb 192 (c3 pb px py)))) ∧ (L 1 = true → v 1 = (.agg (zb 64 (resP p pa pb)))) ∧ (L 2 = true → v 2 = (.agg (zb 64 (subP p pu (prd p (quoP p pa pb) px))))) ∧ (L 3 = true → v 3 = (.agg (zb 64 (subP p pv (prd p (quoP p pa pb) py))))) ∧ (L 4 = true → v 4 = (.agg (zb 192 (c3 (resP p pa pb) (subP p pu (prd p (quoP p pa pb) px)) (subP p pv (prd p (quoP p pa pb) py))))))) ?_ ?_ ?_
          · intro v hv0
            exact ⟨hb.drew, Nat.le_refl _, B2.drew, B3.drew, B4.drew, ⟨_, B5.drew⟩, (fun _ => B5.drew), (fun h => by cases h), ⟨_, B6.drew⟩, (fun _ => B6.drew), (fun h => by cases h), B7.drew, B8.drew, B9.drew, B10.drew, (fun h => by cases h), (fun h => by cases h), (fun h => by cases h), (fun h => by cases h), (fun h => by cases h)⟩
          · refine (.cons rfl ?_ (.cons rfl ?_ (.cons rfl ?_ (.cons rfl ?_ (.cons rfl ?_ (.cons rfl ?_ (.cons rfl ?_ (.nil _))))))))
            all_goals intro L v W7 hd hn ⟨hB, hz, s0, s1, s2, x3, q3, n3, x4, q4, n4, s5, s6, s7, s8, h0, h1, h2, h3, h4⟩ K hK
            · have s4 := q4 (by
               cases hL : L 6 with
               | false => rfl
               | true => exact absurd rfl (hn 6 _ rfl hL ⟨0, .phase⟩ (by simp) rfl))
              refine zlc s4 Try.underlying169 Try.size169 ?_
              exact hK _ _ _ rfl ⟨hB, hz, s0, s1, s2, x3, q3, n3, x4, q4, n4, s5, s6, s7, s8, (fun _ => rfl), h1, h2, h3, h4⟩
            · refine zlc s6 Try.underlying28 Try.size28 ?_
              exact hK _ _ _ rfl ⟨hB, hz, s0, s1, s2, x3, q3, n3, x4, q4, n4, s5, s6, s7, s8, h0, (fun _ => rfl), h2, h3, h4⟩
            · refine zlc s7 Try.underlying28 Try.size28 ?_
              exact hK _ _ _ rfl ⟨hB, hz, s0, s1, s2, x3, q3, n3, x4, q4, n4, s5, s6, s7, s8, h0, h1, (fun _ => rfl), h3, h4⟩
            · refine zlc s8 Try.underlying28 Try.size28 ?_
              exact hK _ _ _ rfl ⟨hB, hz, s0, s1, s2, x3, q3, n3, x4, q4, n4, s5, s6, s7, s8, h0, h1, h2, (fun _ => rfl), h4⟩
            · have e1 := h1 (zdq hd 1 rfl)
              have e2 := h2 (zdq hd 2 rfl)
              have e3 := h3 (zdq hd 3 rfl)
              refine wp_build_of 169 _ rfl (zb 192 (c3 (resP p pa pb) (subP p pu (prd p (quoP p pa pb) px)) (subP p pv (prd p (quoP p pa pb) py)))) (by rw [Array.toList_map]; show Try.prog.built 169 [(0, v 1), (1, v 2), (2, v 3)] = some (zb 192 (c3 (resP p pa pb) (subP p pu (prd p (quoP p pa pb) px)) (subP p pv (prd p (quoP p pa pb) py)))); rw [e1, e2, e3]; exact built_ruv _ _ _) ?_
              exact hK _ _ _ rfl ⟨hB, hz, s0, s1, s2, x3, q3, n3, x4, q4, n4, s5, s6, s7, s8, h0, h1, h2, h3, (fun _ => rfl)⟩
            · have e0 := h0 (zdq hd 0 rfl)
              obtain ⟨gz, hk⟩ := x3
              refine zsb 169 _ _ rfl _ 192 (c3 pb px py) rfl e0 169 gz hk Try.size169 ?_
              exact hK _ undef _ rfl ⟨zr hB (by omega) _, (by simpa [World.setRow] using hz), (s0).rowOther (by omega), (s1).rowOther (by omega), (s2).rowOther (by omega), ⟨_, hk.row _⟩, (fun h => absurd h (by simp [setL])), (fun _ => hk.row _), (let ⟨g, h⟩ := x4; ⟨g, (h).rowOther (by omega)⟩), (fun h => (q4 h).rowOther (by omega)), (fun h => (n4 h).rowOther (by omega)), (s5).rowOther (by omega), (s6).rowOther (by omega), (s7).rowOther (by omega), (s8).rowOther (by omega), h0, h1, h2, h3, h4⟩
            · have e4 := h4 (zdq hd 4 rfl)
              obtain ⟨gz, hk⟩ := x4
              refine zsb 169 _ _ rfl _ 192 (c3 (resP p pa pb) (subP p pu (prd p (quoP p pa pb) px)) (subP p pv (prd p (quoP p pa pb) py))) rfl e4 169 gz hk Try.size169 ?_
              exact hK _ undef _ rfl ⟨zr hB (by omega) _, (by simpa [World.setRow] using hz), (s0).rowOther (by omega), (s1).rowOther (by omega), (s2).rowOther (by omega), (let ⟨g, h⟩ := x3; ⟨g, (h).rowOther (by omega)⟩), (fun h => (q3 h).rowOther (by omega)), (fun h => (n3 h).rowOther (by omega)), ⟨_, hk.row _⟩, (fun h => absurd h (by simp [setL])), (fun _ => hk.row _), (s5).rowOther (by omega), (s6).rowOther (by omega), (s7).rowOther (by omega), (s8).rowOther (by omega), h0, h1, h2, h3, h4⟩
          · intro L v W7 hL ⟨hB, hz, s0, s1, s2, x3, q3, n3, x4, q4, n4, s5, s6, s7, s8, h0, h1, h2, h3, h4⟩
            have r3 := n3 (hL 5 (by decide))
            have r4 := n4 (hL 6 (by decide))
            have e0 := h0 (hL 0 (by decide))
            have e1 := h1 (hL 1 (by decide))
            have e2 := h2 (hL 2 (by decide))
            have e3 := h3 (hL 3 (by decide))
            have e4 := h4 (hL 4 (by decide))
            clear hL x3 q3 n3 x4 q4 n4 h0 h1 h2 h3 h4
            simp only [Exit.then, e0, e1, e2, e3, e4]
            clear e0 e1 e2 e3 e4
            replace B2 := s0
            clear s0
            replace B3 := s1
            clear s1
            replace B4 := s2
            clear s2
            replace B5 := r3
            clear r3
            replace B6 := r4
            clear r4
            replace B7 := s5
            clear s5
            replace B8 := s6
            clear s6
            replace B9 := s7
            clear s7
            replace B10 := s8
            clear s8
            replace hb := hB
            clear hB
            clear hbase hz lt_B2 lt_B3 lt_B4 lt_B5 lt_B6 lt_B7 lt_B8 lt_B9 lt_B10
            go_wp2_with fail
            go_roundw
            case rel => exact ⟨k, pb, (resP p pa pb), px, (subP p pu (prd p (quoP p pa pb) px)), py, (subP p pv (prd p (quoP p pa pb) py)), HRN.out, by have := HDR.out; omega, HI'.out, hb, B5, B6, B2, B3, B4⟩
            case measure =>
             rw [degAt_blk B6 (by omega), degAt_blk B6o (by omega), deg_congr (f := c3 (resP p pa pb) (subP p pu (prd p (quoP p pa pb) px)) (subP p pv (prd p (quoP p pa pb) py))) (g := (resP p pa pb)) (fun k hk => by have := c3_0 (resP p pa pb) (subP p pu (prd p (quoP p pa pb) px)) (subP p pv (prd p (quoP p pa pb) py)) k hk; rwa [Nat.zero_add] at this), deg_congr (f := c3 pb px py) (g := pb) (fun k hk => by have := c3_0 pb px py k hk; rwa [Nat.zero_add] at this)]
             have := HDR.out
             omega
end Go.Proofs.Ytelgefgphhebnaa
end
section
namespace Go.Proofs.Ytelgefgphhebnaa
open Go.RowKit
set_option linter.unusedVariables false
set_option linter.unusedSimpArgs false
attribute [local irreducible] deg invN dS qS stp stpr quoP resP oneP bzD bzU bzW
set_option maxRecDepth 100000 in
set_option maxHeartbeats 800000 in
theorem l01Gcd_any (p : Nat) (f g : Nat → Nat) (w : World) (hpr : p = 2 ∨ p = 3 ∨ p = 5 ∨ p = 7) (lf : ∀ k, k < 64 → f k < p) (lg : ∀ k, k < 64 → g k < p) (hz : ¬ (deg f < 0 ∧ deg g < 0)) :
 Calls Try.prog 157 #[.int .i64 (p : Int), .agg (zb 64 f), .agg (zb 64 g)] w fun e w' => e = .returned (.agg (zb 64 (bzD p f g))) ∧ Below w.heap.size w w' := by
 go_enter Try.func157, Try.ntmps157
 go_upto_region 1 with (fail)
 rw [← z64]
 obtain ⟨W1, hwo⟩ : ∃ v : World, v = (((w.alloc (.cells (zb 64 (f)) 28)).alloc (.cells (zb 64 (g)) 28)).alloc (.cells (zb 64 fun _ => 0) 28)) := ⟨_, rfl⟩
 have B0 : Blk W1 (w.heap.size) 64 28 (f) := by subst hwo; have := (((Blk.new w 64 28 (f)).alloc (.cells (zb 64 (g)) 28)).alloc (.cells (zb 64 fun _ => 0) 28)); simpa using this
 have B1 : Blk W1 (w.heap.size + 1) 64 28 (g) := by subst hwo; have := ((Blk.new (w.alloc (.cells (zb 64 (f)) 28)) 64 28 (g)).alloc (.cells (zb 64 fun _ => 0) 28)); simpa using this
 have B2 : Blk W1 (w.heap.size + 1 + 1) 64 28 (fun _ => 0) := by subst hwo; have := (Blk.new ((w.alloc (.cells (zb 64 (f)) 28)).alloc (.cells (zb 64 (g)) 28)) 64 28 (fun _ => 0)); simpa using this
 have hb : Below w.heap.size w W1 := by subst hwo; exact ((((Below.refl _ _).alloc (Nat.le_refl _) _).alloc (by simp) _).alloc (by simp; omega) _)
 rw [← hwo]
 clear hwo
 by_cases h1 : deg f < 0
 · have h2 : ¬ deg g < 0 := fun h => hz ⟨h1, h⟩
   go_upto_region 3 with (first | (refine zla (.tmp 4) B0 Try.underlying28 Try.size28 ?_) | (go_at_call 106; refine (l01Deg_any _ _).mono ?_; rintro e W2 ⟨rfl, hW2⟩; replace B0 := B0.zw hW2; replace B1 := B1.zw hW2; replace B2 := B2.zw hW2; replace hb := (hb).trans (hW2.mono (hb).size)) | (refine zlg rfl 28 (.tmp 5) rfl _ rfl 64 28 _ (B1) _ Try.underlying28 rfl Try.size28 ?_) | (go_at_call 106; refine (l01Deg_any _ _).mono ?_; rintro e W3 ⟨rfl, hW3⟩; replace B0 := B0.zw hW3; replace B1 := B1.zw hW3; replace B2 := B2.zw hW3; replace hb := (hb).trans (hW3.mono (hb).size)))
   have lt_B0 := B0.lt
   have lt_B1 := B1.lt
   have lt_B2 := B2.lt
   go_upto_region 4 with (first | rw [← z64] | (refine zla (.tmp 4) B0 Try.underlying28 Try.size28 ?_) | (refine zla (.tmp 5) B1 Try.underlying28 Try.size28 ?_) | (go_at_call 147; refine (l01Bezout_any p f g _ hpr lf lg (by omega)).mono ?_; rintro e W4 ⟨rfl, hW4⟩; replace B0 := B0.zw hW4; replace B1 := B1.zw hW4; replace B2 := B2.zw hW4; replace hb := (hb).trans (hW4.mono (hb).size)) | (refine wpList_store_blk rfl 28 (.tmp 7) (.tmp 24) rfl _ 64 (bzD p f g) rfl rfl 28 _ ((((Blk.new W4 64 28 (fun _ => 0)).alloc (.cells (zb 64 fun _ => 0) 28)).alloc (.cells (zb 64 fun _ => 0) 28))) Try.size28 ?_; try simp only [Act.put]) | (refine wpList_store_blk rfl 28 (.tmp 8) (.tmp 25) rfl _ 64 (bzU p f g) rfl rfl 28 _ ((((show Blk ((W4.alloc (.cells (zb 64 fun _ => 0) 28)).alloc (.cells (zb 64 fun _ => 0) 28)) (W4.heap.size + 1) 64 28 (fun _ => 0) by have := Blk.new (W4.alloc (.cells (zb 64 fun _ => 0) 28)) 64 28 (fun _ => 0); simpa using this).alloc (.cells (zb 64 fun _ => 0) 28)).rowOther (by omega))) Try.size28 ?_; try simp only [Act.put]) | (refine wpList_store_blk rfl 28 (.tmp 9) (.tmp 26) rfl _ 64 (bzW p f g) rfl rfl 28 _ ((((show Blk (((W4.alloc (.cells (zb 64 fun _ => 0) 28)).alloc (.cells (zb 64 fun _ => 0) 28)).alloc (.cells (zb 64 fun _ => 0) 28)) (W4.heap.size + 1 + 1) 64 28 (fun _ => 0) by have := Blk.new ((W4.alloc (.cells (zb 64 fun _ => 0) 28)).alloc (.cells (zb 64 fun _ => 0) 28)) 64 28 (fun _ => 0); simpa using this).rowOther (by omega)).rowOther (by omega))) Try.size28 ?_; try simp only [Act.put]))
   have lt_B0 := B0.lt
   have lt_B1 := B1.lt
   have lt_B2 := B2.lt
   have lhb := hb.size
   obtain ⟨W5, hwo, hzQ⟩ : ∃ v : World, v = ((((((W4.alloc (.cells (zb 64 fun _ => 0) 28)).alloc (.cells (zb 64 fun _ => 0) 28)).alloc (.cells (zb 64 fun _ => 0) 28)).setRow (W4.heap.size) (zb 64 (bzD p f g))).setRow (W4.heap.size + 1) (zb 64 (bzU p f g))).setRow (W4.heap.size + 1 + 1) (zb 64 (bzW p f g))) ∧ Blk v (w.heap.size) 64 28 (f) ∧ Blk v (w.heap.size + 1) 64 28 (g) ∧ Blk v (w.heap.size + 1 + 1) 64 28 (fun _ => 0) ∧ Blk v (W4.heap.size) 64 28 (bzD p f g) ∧ Blk v (W4.heap.size + 1) 64 28 (bzU p f g) ∧ Blk v (W4.heap.size + 1 + 1) 64 28 (bzW p f g) ∧ Below w.heap.size w v := ⟨_, rfl, ((((((B0.alloc (.cells (zb 64 fun _ => 0) 28)).alloc (.cells (zb 64 fun _ => 0) 28)).alloc (.cells (zb 64 fun _ => 0) 28)).rowOther (by omega)).rowOther (by omega)).rowOther (by omega)), ((((((B1.alloc (.cells (zb 64 fun _ => 0) 28)).alloc (.cells (zb 64 fun _ => 0) 28)).alloc (.cells (zb 64 fun _ => 0) 28)).rowOther (by omega)).rowOther (by omega)).rowOther (by omega)), ((((((B2.alloc (.cells (zb 64 fun _ => 0) 28)).alloc (.cells (zb 64 fun _ => 0) 28)).alloc (.cells (zb 64 fun _ => 0) 28)).rowOther (by omega)).rowOther (by omega)).rowOther (by omega)), ((((((Blk.new W4 64 28 (fun _ => 0)).alloc (.cells (zb 64 fun _ => 0) 28)).alloc (.cells (zb 64 fun _ => 0) 28)).row (bzD p f g)).rowOther (by omega)).rowOther (by omega)), (((((show Blk ((W4.alloc (.cells (zb 64 fun _ => 0) 28)).alloc (.cells (zb 64 fun _ => 0) 28)) (W4.heap.size + 1) 64 28 (fun _ => 0) by have := Blk.new (W4.alloc (.cells (zb 64 fun _ => 0) 28)) 64 28 (fun _ => 0); simpa using this).alloc (.cells (zb 64 fun _ => 0) 28)).rowOther (by omega)).row (bzU p f g)).rowOther (by omega)), ((((show Blk (((W4.alloc (.cells (zb 64 fun _ => 0) 28)).alloc (.cells (zb 64 fun _ => 0) 28)).alloc (.cells (zb 64 fun _ => 0) 28)) (W4.heap.size + 1 + 1) 64 28 (fun _ => 0) by have := Blk.new ((W4.alloc (.cells (zb 64 fun _ => 0) 28)).alloc (.cells (zb 64 fun _ => 0) 28)) 64 28 (fun _ => 0); simpa using this).rowOther (by omega)).rowOther (by omega)).row (bzW p f g)), (zr (zr (zr (((hb.alloc (by have := hb.size; simp; omega) (.cells (zb 64 fun _ => 0) 28)).alloc (by have := hb.size; simp; omega) (.cells (zb 64 fun _ => 0) 28)).alloc (by have := hb.size; simp; omega) (.cells (zb 64 fun _ => 0) 28)) (by omega) _) (by omega) _) (by omega) _)⟩
   rw [← hwo]
   clear hwo B0 B1 B2 hb
   obtain ⟨B0, B1, B2, B3, B4, B5, hb⟩ := hzQ
   obtain ⟨N1, hNN⟩ : ∃ n : Nat, n = W4.heap.size := ⟨_, rfl⟩
   rw [← hNN] at lt_B0 lt_B1 lt_B2 lhb B3 B4 B5 ⊢
   clear hNN
   have zN1_0 := lt_B0
   have zN1_1 := lt_B1
   have zN1_2 := lt_B2
   have zN1 := lhb
   clear lt_B0 lt_B1 lt_B2 lhb
   try simp only [Act.put, pA, pB, pC]
   have lt_B0 := B0.lt
   have lt_B1 := B1.lt
   have lt_B2 := B2.lt
   have lt_B3 := B3.lt
   have lt_B4 := B4.lt
   have lt_B5 := B5.lt
   go_wp2_with (first | rw [← z64] | (refine zla (.tmp 7) B3 Try.underlying28 Try.size28 ?_) | (refine zsr (.tmp 6) (.tmp 27) (bzD p f g) B2 Try.size28 ?_; try simp only [Act.put]))
   obtain ⟨W6, hwo, hzQ⟩ : ∃ v : World, v = (W5.setRow (w.heap.size + 1 + 1) (zb 64 (bzD p f g))) ∧ Blk v (w.heap.size) 64 28 (f) ∧ Blk v (w.heap.size + 1) 64 28 (g) ∧ Blk v (w.heap.size + 1 + 1) 64 28 (bzD p f g) ∧ Blk v (N1) 64 28 (bzD p f g) ∧ Blk v (N1 + 1) 64 28 (bzU p f g) ∧ Blk v (N1 + 1 + 1) 64 28 (bzW p f g) ∧ Below w.heap.size w v := ⟨_, rfl, (B0.rowOther (by omega)), (B1.rowOther (by omega)), (B2.row (bzD p f g)), (B3.rowOther (by omega)), (B4.rowOther (by omega)), (B5.rowOther (by omega)), (zr hb (by omega) _)⟩
   rw [← hwo]
   clear hwo B0 B1 B2 B3 B4 B5 hb
   obtain ⟨B0, B1, B2, B3, B4, B5, hb⟩ := hzQ
   try simp only [Act.put, pA, pB, pC]
   refine bodyPost_ret (zrb rfl _ _ _ 64 28 5 _ rfl B2 Try.underlying28 Try.size28) rfl ⟨rfl, hb⟩
 · have h2 := h1
   go_upto_region 3 with (first | (refine zla (.tmp 4) B0 Try.underlying28 Try.size28 ?_) | (go_at_call 106; refine (l01Deg_any _ _).mono ?_; rintro e W2 ⟨rfl, hW2⟩; replace B0 := B0.zw hW2; replace B1 := B1.zw hW2; replace B2 := B2.zw hW2; replace hb := (hb).trans (hW2.mono (hb).size)))
   have lt_B0 := B0.lt
   have lt_B1 := B1.lt
   have lt_B2 := B2.lt
   go_upto_region 4 with (first | rw [← z64] | (refine zla (.tmp 4) B0 Try.underlying28 Try.size28 ?_) | (refine zla (.tmp 5) B1 Try.underlying28 Try.size28 ?_) | (go_at_call 147; refine (l01Bezout_any p f g _ hpr lf lg (by omega)).mono ?_; rintro e W3 ⟨rfl, hW3⟩; replace B0 := B0.zw hW3; replace B1 := B1.zw hW3; replace B2 := B2.zw hW3; replace hb := (hb).trans (hW3.mono (hb).size)) | (refine wpList_store_blk rfl 28 (.tmp 7) (.tmp 24) rfl _ 64 (bzD p f g) rfl rfl 28 _ ((((Blk.new W3 64 28 (fun _ => 0)).alloc (.cells (zb 64 fun _ => 0) 28)).alloc (.cells (zb 64 fun _ => 0) 28))) Try.size28 ?_; try simp only [Act.put]) | (refine wpList_store_blk rfl 28 (.tmp 8) (.tmp 25) rfl _ 64 (bzU p f g) rfl rfl 28 _ ((((show Blk ((W3.alloc (.cells (zb 64 fun _ => 0) 28)).alloc (.cells (zb 64 fun _ => 0) 28)) (W3.heap.size + 1) 64 28 (fun _ => 0) by have := Blk.new (W3.alloc (.cells (zb 64 fun _ => 0) 28)) 64 28 (fun _ => 0); simpa using this).alloc (.cells (zb 64 fun _ => 0) 28)).rowOther (by omega))) Try.size28 ?_; try simp only [Act.put]) | (refine wpList_store_blk rfl 28 (.tmp 9) (.tmp 26) rfl _ 64 (bzW p f g) rfl rfl 28 _ ((((show Blk (((W3.alloc (.cells (zb 64 fun _ => 0) 28)).alloc (.cells (zb 64 fun _ => 0) 28)).alloc (.cells (zb 64 fun _ => 0) 28)) (W3.heap.size + 1 + 1) 64 28 (fun _ => 0) by have := Blk.new ((W3.alloc (.cells (zb 64 fun _ => 0) 28)).alloc (.cells (zb 64 fun _ => 0) 28)) 64 28 (fun _ => 0); simpa using this).rowOther (by omega)).rowOther (by omega))) Try.size28 ?_; try simp only [Act.put]))
   have lt_B0 := B0.lt
   have lt_B1 := B1.lt
   have lt_B2 := B2.lt
   have lhb := hb.size
   obtain ⟨W4, hwo, hzQ⟩ : ∃ v : World, v = ((((((W3.alloc (.cells (zb 64 fun _ => 0) 28)).alloc (.cells (zb 64 fun _ => 0) 28)).alloc (.cells (zb 64 fun _ => 0) 28)).setRow (W3.heap.size) (zb 64 (bzD p f g))).setRow (W3.heap.size + 1) (zb 64 (bzU p f g))).setRow (W3.heap.size + 1 + 1) (zb 64 (bzW p f g))) ∧ Blk v (w.heap.size) 64 28 (f) ∧ Blk v (w.heap.size + 1) 64 28 (g) ∧ Blk v (w.heap.size + 1 + 1) 64 28 (fun _ => 0) ∧ Blk v (W3.heap.size) 64 28 (bzD p f g) ∧ Blk v (W3.heap.size + 1) 64 28 (bzU p f g) ∧ Blk v (W3.heap.size + 1 + 1) 64 28 (bzW p f g) ∧ Below w.heap.size w v := ⟨_, rfl, ((((((B0.alloc (.cells (zb 64 fun _ => 0) 28)).alloc (.cells (zb 64 fun _ => 0) 28)).alloc (.cells (zb 64 fun _ => 0) 28)).rowOther (by omega)).rowOther (by omega)).rowOther (by omega)), ((((((B1.alloc (.cells (zb 64 fun _ => 0) 28)).alloc (.cells (zb 64 fun _ => 0) 28)).alloc (.cells (zb 64 fun _ => 0) 28)).rowOther (by omega)).rowOther (by omega)).rowOther (by omega)), ((((((B2.alloc (.cells (zb 64 fun _ => 0) 28)).alloc (.cells (zb 64 fun _ => 0) 28)).alloc (.cells (zb 64 fun _ => 0) 28)).rowOther (by omega)).rowOther (by omega)).rowOther (by omega)), ((((((Blk.new W3 64 28 (fun _ => 0)).alloc (.cells (zb 64 fun _ => 0) 28)).alloc (.cells (zb 64 fun _ => 0) 28)).row (bzD p f g)).rowOther (by omega)).rowOther (by omega)), (((((show Blk ((W3.alloc (.cells (zb 64 fun _ => 0) 28)).alloc (.cells (zb 64 fun _ => 0) 28)) (W3.heap.size + 1) 64 28 (fun _ => 0) by have := Blk.new (W3.alloc (.cells (zb 64 fun _ => 0) 28)) 64 28 (fun _ => 0); simpa using this).alloc (.cells (zb 64 fun _ => 0) 28)).rowOther (by omega)).row (bzU p f g)).rowOther (by omega)), ((((show Blk (((W3.alloc (.cells (zb 64 fun _ => 0) 28)).alloc (.cells (zb 64 fun _ => 0) 28)).alloc (.cells (zb 64 fun _ => 0) 28)) (W3.heap.size + 1 + 1) 64 28 (fun _ => 0) by have := Blk.new ((W3.alloc (.cells (zb 64 fun _ => 0) 28)).alloc (.cells (zb 64 fun _ => 0) 28)) 64 28 (fun _ => 0); simpa using this).rowOther (by omega)).rowOther (by omega)).row (bzW p f g)), (zr (zr (zr (((hb.alloc (by have := hb.size; simp; omega) (.cells (zb 64 fun _ => 0) 28)).alloc (by have := hb.size; simp; omega) (.cells (zb 64 fun _ => 0) 28)).alloc (by have := hb.size; simp; omega) (.cells (zb 64 fun _ => 0) 28)) (by omega) _) (by omega) _) (by omega) _)⟩
   rw [← hwo]
   clear hwo B0 B1 B2 hb
   obtain ⟨B0, B1, B2, B3, B4, B5, hb⟩ := hzQ
   obtain ⟨N1, hNN⟩ : ∃ n : Nat, n = W3.heap.size := ⟨_, rfl⟩
   rw [← hNN] at lt_B0 lt_B1 lt_B2 lhb B3 B4 B5 ⊢
   clear hNN
   have zN1_0 := lt_B0
   have zN1_1 := lt_B1
   have zN1_2 := lt_B2
   have zN1 := lhb
   clear lt_B0 lt_B1 lt_B2 lhb
   try simp only [Act.put, pA, pB, pC]
   have lt_B0 := B0.lt
   have lt_B1 := B1.lt
   have lt_B2 := B2.lt
   have lt_B3 := B3.lt
   have lt_B4 := B4.lt
   have lt_B5 := B5.lt
   go_wp2_with (first | rw [← z64] | (refine zla (.tmp 7) B3 Try.underlying28 Try.size28 ?_) | (refine zsr (.tmp 6) (.tmp 27) (bzD p f g) B2 Try.size28 ?_; try simp only [Act.put]))
   obtain ⟨W5, hwo, hzQ⟩ : ∃ v : World, v = (W4.setRow (w.heap.size + 1 + 1) (zb 64 (bzD p f g))) ∧ Blk v (w.heap.size) 64 28 (f) ∧ Blk v (w.heap.size + 1) 64 28 (g) ∧ Blk v (w.heap.size + 1 + 1) 64 28 (bzD p f g) ∧ Blk v (N1) 64 28 (bzD p f g) ∧ Blk v (N1 + 1) 64 28 (bzU p f g) ∧ Blk v (N1 + 1 + 1) 64 28 (bzW p f g) ∧ Below w.heap.size w v := ⟨_, rfl, (B0.rowOther (by omega)), (B1.rowOther (by omega)), (B2.row (bzD p f g)), (B3.rowOther (by omega)), (B4.rowOther (by omega)), (B5.rowOther (by omega)), (zr hb (by omega) _)⟩
   rw [← hwo]
   clear hwo B0 B1 B2 B3 B4 B5 hb
   obtain ⟨B0, B1, B2, B3, B4, B5, hb⟩ := hzQ
   try simp only [Act.put, pA, pB, pC]
   refine bodyPost_ret (zrb rfl _ _ _ 64 28 5 _ rfl B2 Try.underlying28 Try.size28) rfl ⟨rfl, hb⟩
end Go.Proofs.Ytelgefgphhebnaa
end
section
namespace Go.Proofs.Ytelgefgphhebnaa
open Go.RowKit
set_option linter.unusedVariables false
set_option linter.unusedSimpArgs false
attribute [local irreducible] deg invN dS qS stp stpr quoP resP oneP bzD bzU bzW
/-- monic, of a degree in 1..c -/
def monUp (c : Int) (f : Nat → Nat) : Bool := decide (1 ≤ deg f ∧ deg f ≤ c ∧ f (deg f).toNat = 1)
def monB (f : Nat → Nat) : Bool := decide (0 ≤ deg f ∧ f (deg f).toNat = 1)
theorem monUp_no1 {c : Int} {f : Nat → Nat} (h : ¬ 1 ≤ deg f) : monUp c f = false := by unfold monUp; simp; intro h2; omega
theorem monUp_no2 {c : Int} {f : Nat → Nat} (h : ¬ deg f ≤ c) : monUp c f = false := by unfold monUp; simp; intro _ h2; omega
theorem monUp_at {c : Int} {f : Nat → Nat} {m : Nat} (hm : deg f = (m : Int)) (h1 : 1 ≤ m) (h2 : (m : Int) ≤ c) : monUp c f = ((f m : Int) == 1) := by
 unfold monUp
 rw [hm, Int.toNat_natCast, Bool.eq_iff_iff]
 simp
 omega
theorem monB_no {f : Nat → Nat} (h : ¬ 0 ≤ deg f) : monB f = false := by unfold monB; simp; intro h2; omega
theorem monB_at {f : Nat → Nat} {m : Nat} (hm : deg f = (m : Int)) : monB f = ((f m : Int) == 1) := by
 unfold monB
 rw [hm, Int.toNat_natCast, Bool.eq_iff_iff]
 simp
 omega
theorem monUp_B {c : Int} {f : Nat → Nat} : monUp c f = (monB f && decide (1 ≤ deg f ∧ deg f ≤ c)) := by
 unfold monUp monB
 rw [Bool.eq_iff_iff]
 simp
 constructor
 · rintro ⟨a, b, c⟩; exact ⟨⟨by omega, c⟩, a, b⟩
 · rintro ⟨⟨a, b⟩, c, d⟩; exact ⟨c, d, b⟩
theorem mon_up {c : Int} {f : Nat → Nat} (h : monUp c f = true) : ∃ d : Nat, mon f d ∧ 1 ≤ d ∧ (d : Int) ≤ c := by
 unfold monUp at h
 simp at h
 obtain ⟨d, hd⟩ : ∃ d : Nat, deg f = (d : Int) := ⟨(deg f).toNat, by omega⟩
 refine ⟨d, ⟨hd, ?_⟩, by omega, by omega⟩
 have := h.2.2
 rwa [hd, Int.toNat_natCast] at this
set_option maxRecDepth 100000 in
set_option maxHeartbeats 400000 in
theorem isMonicUpTo_any (c : Int) (f : Nat → Nat) (hf : byte f) (w : World) (c1 : 0 ≤ c) (c2 : c ≤ 63) :
 Calls Try.prog 137 #[.int .i64 c, .agg (zb 64 f)] w fun e w' => e = .returned (.bool (monUp c f)) ∧ Below w.heap.size w w' := by
 obtain ⟨fb1, fb2⟩ := zdb f
 go_enter Try.func137, Try.ntmps137
 go_upto_region 1 with (fail)
 obtain ⟨W1, hwo⟩ : ∃ v : World, v = (w.alloc (.cells (zb 64 (f)) 28)) := ⟨_, rfl⟩
 have B0 : Blk W1 (w.heap.size) 64 28 (f) := by subst hwo; have := (Blk.new w 64 28 (f)); simpa using this
 have hb : Below w.heap.size w W1 := by subst hwo; exact ((Below.refl _ _).alloc (Nat.le_refl _) _)
 rw [← hwo]
 clear hwo
 go_upto_region 2 with (first | (refine zla (.tmp 3) B0 Try.underlying28 Try.size28 ?_) | (go_at_call 77; refine (degree_any f _).mono ?_; rintro e W2 ⟨rfl, hW2⟩; replace B0 := B0.zw hW2; replace hb := (hb).trans (hW2.mono (hb).size)))
 by_cases h1 : 1 ≤ deg f
 · by_cases h2 : deg f ≤ c
   · obtain ⟨m, hm⟩ : ∃ m : Nat, deg f = (m : Int) := ⟨(deg f).toNat, by omega⟩
     have HV := Lib.hid (monUp_at (c := c) hm (by omega) (by omega))
     rw [hm]
     have cc := B0.cell (i := m) (by omega)
     have hfm := hf m
     have g1 : (1 : Int) ≤ (m : Int) := by omega
     have g2 : (m : Int) ≤ c := by omega
     have g3 : m < 64 := by omega
     clear hm h1 h2
     go_wp2_with fail
     go_ret
     exact ⟨ret_bool HV.out.symm, hb⟩
   · have HV := Lib.hid (monUp_no2 (c := c) h2)
     have h3 : c < deg f := by omega
     clear h2
     go_wp2_with fail
     go_ret
     exact ⟨ret_bool HV.out.symm, hb⟩
 · have HV := Lib.hid (monUp_no1 (c := c) h1)
   have h3 : deg f < 1 := by omega
   clear h1
   go_wp2_with fail
   go_ret
   exact ⟨ret_bool HV.out.symm, hb⟩
set_option maxRecDepth 100000 in
theorem l01Monic_any (f : Nat → Nat) (hf : byte f) (w : World) : Calls Try.prog 134 #[.agg (zb 64 f)] w fun e w' => e = .returned (.bool (monB f)) ∧ Below w.heap.size w w' := by
 obtain ⟨fb1, fb2⟩ := zdb f
 go_enter Try.func134, Try.ntmps134
 go_upto_region 1 with (fail)
 obtain ⟨W1, hwo⟩ : ∃ v : World, v = (w.alloc (.cells (zb 64 (f)) 28)) := ⟨_, rfl⟩
 have B0 : Blk W1 (w.heap.size) 64 28 (f) := by subst hwo; have := (Blk.new w 64 28 (f)); simpa using this
 have hb : Below w.heap.size w W1 := by subst hwo; exact ((Below.refl _ _).alloc (Nat.le_refl _) _)
 rw [← hwo]
 clear hwo
 go_upto_region 2 with (first | (refine zla (.tmp 1) B0 Try.underlying28 Try.size28 ?_) | (go_at_call 106; refine (l01Deg_any f _).mono ?_; rintro e W2 ⟨rfl, hW2⟩; replace B0 := B0.zw hW2; replace hb := (hb).trans (hW2.mono (hb).size)))
 by_cases h1 : 0 ≤ deg f
 · obtain ⟨m, hm⟩ : ∃ m : Nat, deg f = (m : Int) := ⟨(deg f).toNat, by omega⟩
   have HV := Lib.hid (monB_at hm)
   rw [hm]
   have cc := B0.cell (i := m) (by omega)
   have hfm := hf m
   have g3 : m < 64 := by omega
   clear hm h1
   go_wp2_with fail
   go_ret
   exact ⟨ret_bool HV.out.symm, hb⟩
 · have HV := Lib.hid (monB_no h1)
   have h3 : deg f < 0 := by omega
   clear h1
   go_wp2_with fail
   go_ret
   exact ⟨ret_bool HV.out.symm, hb⟩
end Go.Proofs.Ytelgefgphhebnaa
end
section
namespace Go.Proofs.Ytelgefgphhebnaa
open Go.RowKit
set_option linter.unusedVariables false
set_option linter.unusedSimpArgs false
attribute [local irreducible] deg invN dS qS stp stpr quoP resP oneP bzD bzU bzW
set_option maxRecDepth 100000 in
set_option maxHeartbeats 400000 in
theorem l01Mod_any (p : Nat) (f m : Nat → Nat) (w : World) (hpr : p = 2 ∨ p = 3 ∨ p = 5 ∨ p = 7) (lf : ∀ k, k < 64 → f k < p) (lm : ∀ k, k < 64 → m k < p) (h0 : 0 ≤ deg m) :
 Calls Try.prog 64 #[.int .i64 (p : Int), .agg (zb 64 f), .agg (zb 64 m)] w fun e w' => e = .returned (.agg (zb 64 (resP p f m))) ∧ Below w.heap.size w w' := by
 go_enter Try.func64, Try.ntmps64
 go_upto_region 1 with (fail)
 rw [← z64]
 obtain ⟨W1, hwo⟩ : ∃ v : World, v = (((w.alloc (.cells (zb 64 (f)) 28)).alloc (.cells (zb 64 (m)) 28)).alloc (.cells (zb 64 fun _ => 0) 28)) := ⟨_, rfl⟩
 have B0 : Blk W1 (w.heap.size) 64 28 (f) := by subst hwo; have := (((Blk.new w 64 28 (f)).alloc (.cells (zb 64 (m)) 28)).alloc (.cells (zb 64 fun _ => 0) 28)); simpa using this
 have B1 : Blk W1 (w.heap.size + 1) 64 28 (m) := by subst hwo; have := ((Blk.new (w.alloc (.cells (zb 64 (f)) 28)) 64 28 (m)).alloc (.cells (zb 64 fun _ => 0) 28)); simpa using this
 have B2 : Blk W1 (w.heap.size + 1 + 1) 64 28 (fun _ => 0) := by subst hwo; have := (Blk.new ((w.alloc (.cells (zb 64 (f)) 28)).alloc (.cells (zb 64 (m)) 28)) 64 28 (fun _ => 0)); simpa using this
 have hb : Below w.heap.size w W1 := by subst hwo; exact ((((Below.refl _ _).alloc (Nat.le_refl _) _).alloc (by simp) _).alloc (by simp; omega) _)
 rw [← hwo]
 clear hwo
 have lt_B0 := B0.lt
 have lt_B1 := B1.lt
 have lt_B2 := B2.lt
 go_upto_region 2 with (first | rw [← z64] | (refine zla (.tmp 4) B0 Try.underlying28 Try.size28 ?_) | (refine zla (.tmp 5) B1 Try.underlying28 Try.size28 ?_) | (go_at_call 112; refine (l01Divide_any p f m _ hpr lf lm h0).mono ?_; rintro e W2 ⟨rfl, hW2⟩; replace B0 := B0.zw hW2; replace B1 := B1.zw hW2; replace B2 := B2.zw hW2; replace hb := (hb).trans (hW2.mono (hb).size)) | (refine wpList_store_blk rfl 28 (.tmp 7) (.tmp 14) rfl _ 64 (quoP p f m) rfl rfl 28 _ (((Blk.new W2 64 28 (fun _ => 0)).alloc (.cells (zb 64 fun _ => 0) 28))) Try.size28 ?_; try simp only [Act.put]) | (refine wpList_store_blk rfl 28 (.tmp 8) (.tmp 15) rfl _ 64 (resP p f m) rfl rfl 28 _ (((show Blk ((W2.alloc (.cells (zb 64 fun _ => 0) 28)).alloc (.cells (zb 64 fun _ => 0) 28)) (W2.heap.size + 1) 64 28 (fun _ => 0) by have := Blk.new (W2.alloc (.cells (zb 64 fun _ => 0) 28)) 64 28 (fun _ => 0); simpa using this).rowOther (by omega))) Try.size28 ?_; try simp only [Act.put]))
 have lt_B0 := B0.lt
 have lt_B1 := B1.lt
 have lt_B2 := B2.lt
 have lhb := hb.size
 obtain ⟨W3, hwo, hzQ⟩ : ∃ v : World, v = ((((W2.alloc (.cells (zb 64 fun _ => 0) 28)).alloc (.cells (zb 64 fun _ => 0) 28)).setRow (W2.heap.size) (zb 64 (quoP p f m))).setRow (W2.heap.size + 1) (zb 64 (resP p f m))) ∧ Blk v (w.heap.size) 64 28 (f) ∧ Blk v (w.heap.size + 1) 64 28 (m) ∧ Blk v (w.heap.size + 1 + 1) 64 28 (fun _ => 0) ∧ Blk v (W2.heap.size) 64 28 (quoP p f m) ∧ Blk v (W2.heap.size + 1) 64 28 (resP p f m) ∧ Below w.heap.size w v := ⟨_, rfl, ((((B0.alloc (.cells (zb 64 fun _ => 0) 28)).alloc (.cells (zb 64 fun _ => 0) 28)).rowOther (by omega)).rowOther (by omega)), ((((B1.alloc (.cells (zb 64 fun _ => 0) 28)).alloc (.cells (zb 64 fun _ => 0) 28)).rowOther (by omega)).rowOther (by omega)), ((((B2.alloc (.cells (zb 64 fun _ => 0) 28)).alloc (.cells (zb 64 fun _ => 0) 28)).rowOther (by omega)).rowOther (by omega)), ((((Blk.new W2 64 28 (fun _ => 0)).alloc (.cells (zb 64 fun _ => 0) 28)).row (quoP p f m)).rowOther (by omega)), (((show Blk ((W2.alloc (.cells (zb 64 fun _ => 0) 28)).alloc (.cells (zb 64 fun _ => 0) 28)) (W2.heap.size + 1) 64 28 (fun _ => 0) by have := Blk.new (W2.alloc (.cells (zb 64 fun _ => 0) 28)) 64 28 (fun _ => 0); simpa using this).rowOther (by omega)).row (resP p f m)), (zr (zr ((hb.alloc (by have := hb.size; simp; omega) (.cells (zb 64 fun _ => 0) 28)).alloc (by have := hb.size; simp; omega) (.cells (zb 64 fun _ => 0) 28)) (by omega) _) (by omega) _)⟩
 rw [← hwo]
 clear hwo B0 B1 B2 hb
 obtain ⟨B0, B1, B2, B3, B4, hb⟩ := hzQ
 obtain ⟨N1, hNN⟩ : ∃ n : Nat, n = W2.heap.size := ⟨_, rfl⟩
 rw [← hNN] at lt_B0 lt_B1 lt_B2 lhb B3 B4 ⊢
 clear hNN
 have zN1_0 := lt_B0
 have zN1_1 := lt_B1
 have zN1_2 := lt_B2
 have zN1 := lhb
 clear lt_B0 lt_B1 lt_B2 lhb
 try simp only [Act.put, pA, pB, pC]
 have lt_B0 := B0.lt
 have lt_B1 := B1.lt
 have lt_B2 := B2.lt
 have lt_B3 := B3.lt
 have lt_B4 := B4.lt
 go_wp2_with (first | rw [← z64] | (refine zla (.tmp 8) B4 Try.underlying28 Try.size28 ?_) | (refine zsr (.tmp 6) (.tmp 16) (resP p f m) B2 Try.size28 ?_; try simp only [Act.put]))
 obtain ⟨W4, hwo, hzQ⟩ : ∃ v : World, v = (W3.setRow (w.heap.size + 1 + 1) (zb 64 (resP p f m))) ∧ Blk v (w.heap.size) 64 28 (f) ∧ Blk v (w.heap.size + 1) 64 28 (m) ∧ Blk v (w.heap.size + 1 + 1) 64 28 (resP p f m) ∧ Blk v (N1) 64 28 (quoP p f m) ∧ Blk v (N1 + 1) 64 28 (resP p f m) ∧ Below w.heap.size w v := ⟨_, rfl, (B0.rowOther (by omega)), (B1.rowOther (by omega)), (B2.row (resP p f m)), (B3.rowOther (by omega)), (B4.rowOther (by omega)), (zr hb (by omega) _)⟩
 rw [← hwo]
 clear hwo B0 B1 B2 B3 B4 hb
 obtain ⟨B0, B1, B2, B3, B4, hb⟩ := hzQ
 try simp only [Act.put, pA, pB, pC]
 refine bodyPost_ret (zrb rfl _ _ _ 64 28 5 _ rfl B2 Try.underlying28 Try.size28) rfl ⟨rfl, hb⟩
end Go.Proofs.Ytelgefgphhebnaa
end
section
namespace Go.Proofs.Ytelgefgphhebnaa
open Go.RowKit
set_option linter.unusedVariables false
set_option linter.unusedSimpArgs false
attribute [local irreducible] deg invN dS qS stp stpr quoP resP oneP upP upF hmR mmP shA
set_option maxRecDepth 100000 in
set_option maxHeartbeats 400000 in
theorem restOf_any (p : Nat) (f m : Nat → Nat) (w : World) (hpr : p = 2 ∨ p = 3 ∨ p = 5 ∨ p = 7) (lf : ∀ k, k < 64 → f k < p) (lm : ∀ k, k < 64 → m k < p) (h0 : 0 ≤ deg m) :
 Calls Try.prog 66 #[.int .i64 (p : Int), .agg (zb 64 f), .agg (zb 64 m)] w fun e w' => e = .returned (.agg (zb 64 (resP p f m))) ∧ Below w.heap.size w w' := by
 go_enter Try.func66, Try.ntmps66
 go_upto_region 1 with (fail)
 rw [← z64]
 obtain ⟨W1, hwo⟩ : ∃ v : World, v = (((w.alloc (.cells (zb 64 (f)) 28)).alloc (.cells (zb 64 (m)) 28)).alloc (.cells (zb 64 fun _ => 0) 28)) := ⟨_, rfl⟩
 have B0 : Blk W1 (w.heap.size) 64 28 (f) := by subst hwo; have := (((Blk.new w 64 28 (f)).alloc (.cells (zb 64 (m)) 28)).alloc (.cells (zb 64 fun _ => 0) 28)); simpa using this
 have B1 : Blk W1 (w.heap.size + 1) 64 28 (m) := by subst hwo; have := ((Blk.new (w.alloc (.cells (zb 64 (f)) 28)) 64 28 (m)).alloc (.cells (zb 64 fun _ => 0) 28)); simpa using this
 have B2 : Blk W1 (w.heap.size + 1 + 1) 64 28 (fun _ => 0) := by subst hwo; have := (Blk.new ((w.alloc (.cells (zb 64 (f)) 28)).alloc (.cells (zb 64 (m)) 28)) 64 28 (fun _ => 0)); simpa using this
 have hb : Below w.heap.size w W1 := by subst hwo; exact ((((Below.refl _ _).alloc (Nat.le_refl _) _).alloc (by simp) _).alloc (by simp; omega) _)
 rw [← hwo]
 clear hwo
 have lt_B0 := B0.lt
 have lt_B1 := B1.lt
 have lt_B2 := B2.lt
 go_upto_region 2 with (first | rw [← z64] | (refine zla (.tmp 4) B0 Try.underlying28 Try.size28 ?_) | (refine zla (.tmp 5) B1 Try.underlying28 Try.size28 ?_) | (go_at_call 115; refine (quotientAndRest_any p f m _ hpr lf lm h0).mono ?_; rintro e W2 ⟨rfl, hW2⟩; replace B0 := B0.zw hW2; replace B1 := B1.zw hW2; replace B2 := B2.zw hW2; replace hb := (hb).trans (hW2.mono (hb).size)) | (refine wpList_store_blk rfl 28 (.tmp 7) (.tmp 14) rfl _ 64 (quoP p f m) rfl rfl 28 _ (((Blk.new W2 64 28 (fun _ => 0)).alloc (.cells (zb 64 fun _ => 0) 28))) Try.size28 ?_; try simp only [Act.put]) | (refine wpList_store_blk rfl 28 (.tmp 8) (.tmp 15) rfl _ 64 (resP p f m) rfl rfl 28 _ (((show Blk ((W2.alloc (.cells (zb 64 fun _ => 0) 28)).alloc (.cells (zb 64 fun _ => 0) 28)) (W2.heap.size + 1) 64 28 (fun _ => 0) by have := Blk.new (W2.alloc (.cells (zb 64 fun _ => 0) 28)) 64 28 (fun _ => 0); simpa using this).rowOther (by omega))) Try.size28 ?_; try simp only [Act.put]))
 have lt_B0 := B0.lt
 have lt_B1 := B1.lt
 have lt_B2 := B2.lt
 have lhb := hb.size
 obtain ⟨W3, hwo, hzQ⟩ : ∃ v : World, v = ((((W2.alloc (.cells (zb 64 fun _ => 0) 28)).alloc (.cells (zb 64 fun _ => 0) 28)).setRow (W2.heap.size) (zb 64 (quoP p f m))).setRow (W2.heap.size + 1) (zb 64 (resP p f m))) ∧ Blk v (w.heap.size) 64 28 (f) ∧ Blk v (w.heap.size + 1) 64 28 (m) ∧ Blk v (w.heap.size + 1 + 1) 64 28 (fun _ => 0) ∧ Blk v (W2.heap.size) 64 28 (quoP p f m) ∧ Blk v (W2.heap.size + 1) 64 28 (resP p f m) ∧ Below w.heap.size w v := ⟨_, rfl, ((((B0.alloc (.cells (zb 64 fun _ => 0) 28)).alloc (.cells (zb 64 fun _ => 0) 28)).rowOther (by omega)).rowOther (by omega)), ((((B1.alloc (.cells (zb 64 fun _ => 0) 28)).alloc (.cells (zb 64 fun _ => 0) 28)).rowOther (by omega)).rowOther (by omega)), ((((B2.alloc (.cells (zb 64 fun _ => 0) 28)).alloc (.cells (zb 64 fun _ => 0) 28)).rowOther (by omega)).rowOther (by omega)), ((((Blk.new W2 64 28 (fun _ => 0)).alloc (.cells (zb 64 fun _ => 0) 28)).row (quoP p f m)).rowOther (by omega)), (((show Blk ((W2.alloc (.cells (zb 64 fun _ => 0) 28)).alloc (.cells (zb 64 fun _ => 0) 28)) (W2.heap.size + 1) 64 28 (fun _ => 0) by have := Blk.new (W2.alloc (.cells (zb 64 fun _ => 0) 28)) 64 28 (fun _ => 0); simpa using this).rowOther (by omega)).row (resP p f m)), (zr (zr ((hb.alloc (by have := hb.size; simp; omega) (.cells (zb 64 fun _ => 0) 28)).alloc (by have := hb.size; simp; omega) (.cells (zb 64 fun _ => 0) 28)) (by omega) _) (by omega) _)⟩
 rw [← hwo]
 clear hwo B0 B1 B2 hb
 obtain ⟨B0, B1, B2, B3, B4, hb⟩ := hzQ
 obtain ⟨N1, hNN⟩ : ∃ n : Nat, n = W2.heap.size := ⟨_, rfl⟩
 rw [← hNN] at lt_B0 lt_B1 lt_B2 lhb B3 B4 ⊢
 clear hNN
 have zN1_0 := lt_B0
 have zN1_1 := lt_B1
 have zN1_2 := lt_B2
 have zN1 := lhb
 clear lt_B0 lt_B1 lt_B2 lhb
 try simp only [Act.put, pA, pB, pC]
 have lt_B0 := B0.lt
 have lt_B1 := B1.lt
 have lt_B2 := B2.lt
 have lt_B3 := B3.lt
 have lt_B4 := B4.lt
 go_wp2_with (first | rw [← z64] | (refine zla (.tmp 8) B4 Try.underlying28 Try.size28 ?_) | (refine zsr (.tmp 6) (.tmp 16) (resP p f m) B2 Try.size28 ?_; try simp only [Act.put]))
 obtain ⟨W4, hwo, hzQ⟩ : ∃ v : World, v = (W3.setRow (w.heap.size + 1 + 1) (zb 64 (resP p f m))) ∧ Blk v (w.heap.size) 64 28 (f) ∧ Blk v (w.heap.size + 1) 64 28 (m) ∧ Blk v (w.heap.size + 1 + 1) 64 28 (resP p f m) ∧ Blk v (N1) 64 28 (quoP p f m) ∧ Blk v (N1 + 1) 64 28 (resP p f m) ∧ Below w.heap.size w v := ⟨_, rfl, (B0.rowOther (by omega)), (B1.rowOther (by omega)), (B2.row (resP p f m)), (B3.rowOther (by omega)), (B4.rowOther (by omega)), (zr hb (by omega) _)⟩
 rw [← hwo]
 clear hwo B0 B1 B2 B3 B4 hb
 obtain ⟨B0, B1, B2, B3, B4, hb⟩ := hzQ
 try simp only [Act.put, pA, pB, pC]
 refine bodyPost_ret (zrb rfl _ _ _ 64 28 5 _ rfl B2 Try.underlying28 Try.size28) rfl ⟨rfl, hb⟩
set_option maxRecDepth 100000 in
set_option maxHeartbeats 800000 in
theorem restOfProduct_any (p : Nat) (f g m : Nat → Nat) (w : World) (hpr : p = 2 ∨ p = 3 ∨ p = 5 ∨ p = 7) (lf : ∀ k, k < 64 → f k < p) (lg : ∀ k, k < 64 → g k < p) (lm : ∀ k, k < 64 → m k < p) (h0 : 0 ≤ deg m) :
 Calls Try.prog 150 #[.int .i64 (p : Int), .agg (zb 64 f), .agg (zb 64 g), .agg (zb 64 m)] w fun e w' => e = .returned (.agg (zb 64 (mmP p f g m))) ∧ Below w.heap.size w w' := by
 have p2 : 2 ≤ p := by omega
 have p7 : p ≤ 7 := by omega
 obtain ⟨d, hd⟩ : ∃ d : Nat, deg m = (d : Int) := ⟨(deg m).toNat, by omega⟩
 obtain ⟨d6, md, _⟩ := deg_top hd
 obtain ⟨Q, hQ⟩ : ∃ Q, Q = quoW p (invN p (m d)) d m (prd p f g) := ⟨_, rfl⟩
 have HW := Lib.hid (fun W => wideProduct_any p f g W p2 p7 lf lg)
 have HL := Lib.hid (show ∀ W, Calls Try.prog 148 #[.int .i64 (p : Int), .agg (zb 128 (prd p f g)), .agg (zb 64 m)] W fun e w' => e = .returned (.tuple #[.agg (zb 128 Q), .agg (zb 64 (mmP p f g m))]) ∧ Below W.heap.size W w' by
  intro W
  rw [hQ, mmP_at hd]
  exact longDivision_any p d (prd p f g) m W hpr (fun k _ => prd_lt (by omega) k) lm hd md d6)
 clear hd md hQ
 go_enter Try.func150, Try.ntmps150
 go_upto_region 1 with (fail)
 rw [← z64]
 obtain ⟨W1, hwo⟩ : ∃ v : World, v = ((((w.alloc (.cells (zb 64 (f)) 28)).alloc (.cells (zb 64 (g)) 28)).alloc (.cells (zb 64 (m)) 28)).alloc (.cells (zb 64 fun _ => 0) 28)) := ⟨_, rfl⟩
 have B0 : Blk W1 (w.heap.size) 64 28 (f) := by subst hwo; have := ((((Blk.new w 64 28 (f)).alloc (.cells (zb 64 (g)) 28)).alloc (.cells (zb 64 (m)) 28)).alloc (.cells (zb 64 fun _ => 0) 28)); simpa using this
 have B1 : Blk W1 (w.heap.size + 1) 64 28 (g) := by subst hwo; have := (((Blk.new (w.alloc (.cells (zb 64 (f)) 28)) 64 28 (g)).alloc (.cells (zb 64 (m)) 28)).alloc (.cells (zb 64 fun _ => 0) 28)); simpa using this
 have B2 : Blk W1 (w.heap.size + 1 + 1) 64 28 (m) := by subst hwo; have := ((Blk.new ((w.alloc (.cells (zb 64 (f)) 28)).alloc (.cells (zb 64 (g)) 28)) 64 28 (m)).alloc (.cells (zb 64 fun _ => 0) 28)); simpa using this
 have B3 : Blk W1 (w.heap.size + 1 + 1 + 1) 64 28 (fun _ => 0) := by subst hwo; have := (Blk.new (((w.alloc (.cells (zb 64 (f)) 28)).alloc (.cells (zb 64 (g)) 28)).alloc (.cells (zb 64 (m)) 28)) 64 28 (fun _ => 0)); simpa using this
 have hb : Below w.heap.size w W1 := by subst hwo; exact (((((Below.refl _ _).alloc (Nat.le_refl _) _).alloc (by simp) _).alloc (by simp; omega) _).alloc (by simp; omega) _)
 rw [← hwo]
 clear hwo
 have lt_B0 : (w.heap.size) < W1.heap.size := B0.lt
 have lt_B1 : (w.heap.size + 1) < W1.heap.size := B1.lt
 have lt_B2 : (w.heap.size + 1 + 1) < W1.heap.size := B2.lt
 have lt_B3 : (w.heap.size + 1 + 1 + 1) < W1.heap.size := B3.lt
 have hbase : w.heap.size ≤ W1.heap.size := hb.size
 refine zq Try.mixed (by kernel_rfl) (by kernel_rfl) (fun v => by (simp only [frL, Act.put, pA, pB, pC, Nat.reduceAdd, Nat.zero_add]; exact rfl))
  (fun L v W2 => Below w.heap.size w W2 ∧ W1.heap.size ≤ W2.heap.size ∧ Blk W2 (w.heap.size) 64 28 (f) ∧ Blk W2 (w.heap.size + 1) 64 28 (g) ∧ Blk W2 (w.heap.size + 1 + 1) 64 28 (m) ∧ Blk W2 (w.heap.size + 1 + 1 + 1) 64 28 (fun _ => 0) ∧ (L 0 = true → v 0 = (.int .i64 (p : Int))) ∧ (L 1 = true → v 1 = (.int .i64 (p : Int))) ∧ (L 2 = true → v 2 = (.agg (zb 64 (f)))) ∧ (L 3 = true → v 3 = (.agg (zb 64 (g)))) ∧ (L 4 = true → v 4 = (.agg (zb 128 (prd p f g)))) ∧ (L 5 = true → v 5 = (.agg (zb 64 (m)))) ∧ (L 6 = true → v 6 = (.tuple #[(.agg (zb 128 (Q))), (.agg (zb 64 (mmP p f g m)))])) ∧ (L 7 = true → v 7 = (.tuple #[(.agg (zb 128 (Q))), (.agg (zb 64 (mmP p f g m)))])) ∧ (L 8 = true → v 8 = (.agg (zb 128 (Q)))) ∧ (L 9 = true → v 9 = (.agg (zb 64 (mmP p f g m)))) ∧ (L 10 = true → AF (v 10) W2 W1.heap.size 128 151) ∧ (L 11 = true → AF (v 11) W2 W1.heap.size 64 28) ∧ (L 12 = true → PF (v 10) W2 W1.heap.size 128 151 (Q)) ∧ (L 13 = true → PF (v 11) W2 W1.heap.size 64 28 (mmP p f g m)) ∧ (L 10 = true → L 11 = true → v 10 ≠ v 11)) ?_ ?_ ?_
 · intro v hv0
   exact ⟨hb.drew, Nat.le_refl _, B0.drew, B1.drew, B2.drew, B3.drew, (fun h => by cases h), (fun h => by cases h), (fun h => by cases h), (fun h => by cases h), (fun h => by cases h), (fun h => by cases h), (fun h => by cases h), (fun h => by cases h), (fun h => by cases h), (fun h => by cases h), (fun h => by cases h), (fun h => by cases h), (fun h => by cases h), (fun h => by cases h), (fun h => by cases h)⟩
 · refine (.cons rfl ?_ (.cons rfl ?_ (.cons rfl ?_ (.cons rfl ?_ (.cons rfl ?_ (.cons rfl ?_ (.cons rfl ?_ (.cons rfl ?_ (.cons rfl ?_ (.cons rfl ?_ (.cons rfl ?_ (.cons rfl ?_ (.cons rfl ?_ (.cons rfl ?_ (.nil _)))))))))))))))
   all_goals intro L v W2 hd hn ⟨hB, hz, s0, s1, s2, s3, h0, h1, h2, h3, h4, h5, h6, h7, h8, h9, h10, h11, h12, h13, d10_11⟩ K hK
   · go_wp2_with fail
     exact hK _ (.int .i64 (p : Int)) _ (by simp only [Act.put, pA, pB, pC ]) ⟨hB, hz, s0, s1, s2, s3, (fun _ => rfl), h1, h2, h3, h4, h5, h6, h7, h8, h9, h10, h11, h12, h13, d10_11⟩
   · go_wp2_with fail
     exact hK _ (.int .i64 (p : Int)) _ (by simp only [Act.put, pA, pB, pC ]) ⟨hB, hz, s0, s1, s2, s3, h0, (fun _ => rfl), h2, h3, h4, h5, h6, h7, h8, h9, h10, h11, h12, h13, d10_11⟩
   · refine zlc s0 Try.underlying28 Try.size28 ?_
     exact hK _ _ _ rfl ⟨hB, hz, s0, s1, s2, s3, h0, h1, (fun _ => rfl), h3, h4, h5, h6, h7, h8, h9, h10, h11, h12, h13, d10_11⟩
   · refine zlc s1 Try.underlying28 Try.size28 ?_
     exact hK _ _ _ rfl ⟨hB, hz, s0, s1, s2, s3, h0, h1, h2, (fun _ => rfl), h4, h5, h6, h7, h8, h9, h10, h11, h12, h13, d10_11⟩
   · have e1 := h1 (zdq hd 1 rfl)
     have e2 := h2 (zdq hd 2 rfl)
     have e3 := h3 (zdq hd 3 rfl)
     go_wp2_with (go_at_call 149; refine (HW.out _).mono ?_; rintro e wy ⟨rfl, hy⟩)
     exact hK _ (.agg (zb 128 (prd p f g))) _ (by simp only [Act.put, pA, pB, pC, e1, e2, e3]) ⟨hB.trans (hy.mono hB.size), (Nat.le_trans hz hy.size), s0.zw hy, s1.zw hy, s2.zw hy, s3.zw hy, h0, h1, h2, h3, (fun _ => rfl), h5, h6, h7, h8, h9, (fun h => (h10 h).below hy), (fun h => (h11 h).below hy), (fun h => (h12 h).below hy), (fun h => (h13 h).below hy), d10_11⟩
   · refine zlc s2 Try.underlying28 Try.size28 ?_
     exact hK _ _ _ rfl ⟨hB, hz, s0, s1, s2, s3, h0, h1, h2, h3, h4, (fun _ => rfl), h6, h7, h8, h9, h10, h11, h12, h13, d10_11⟩
   · have e0 := h0 (zdq hd 0 rfl)
     have e4 := h4 (zdq hd 4 rfl)
     have e5 := h5 (zdq hd 5 rfl)
     go_wp2_with (go_at_call 148; refine (HL.out _).mono ?_; rintro e wy ⟨rfl, hy⟩)
     exact hK _ (.tuple #[(.agg (zb 128 (Q))), (.agg (zb 64 (mmP p f g m)))]) _ (by simp only [Act.put, pA, pB, pC, e0, e4, e5]) ⟨hB.trans (hy.mono hB.size), (Nat.le_trans hz hy.size), s0.zw hy, s1.zw hy, s2.zw hy, s3.zw hy, h0, h1, h2, h3, h4, h5, (fun _ => rfl), h7, h8, h9, (fun h => (h10 h).below hy), (fun h => (h11 h).below hy), (fun h => (h12 h).below hy), (fun h => (h13 h).below hy), d10_11⟩
   · have e6 := h6 (zdq hd 6 rfl)
     go_wp2_with fail
     exact hK _ (.tuple #[(.agg (zb 128 (Q))), (.agg (zb 64 (mmP p f g m)))]) _ (by simp only [Act.put, pA, pB, pC, e6]) ⟨hB, hz, s0, s1, s2, s3, h0, h1, h2, h3, h4, h5, h6, (fun _ => rfl), h8, h9, h10, h11, h12, h13, d10_11⟩
   · have e7 := h7 (zdq hd 7 rfl)
     go_wp2_with fail
     exact hK _ (.agg (zb 128 (Q))) _ (by simp only [Act.put, pA, pB, pC, e7]) ⟨hB, hz, s0, s1, s2, s3, h0, h1, h2, h3, h4, h5, h6, h7, (fun _ => rfl), h9, h10, h11, h12, h13, d10_11⟩
   · have e7 := h7 (zdq hd 7 rfl)
     go_wp2_with fail
     exact hK _ (.agg (zb 64 (mmP p f g m))) _ (by simp only [Act.put, pA, pB, pC, e7]) ⟨hB, hz, s0, s1, s2, s3, h0, h1, h2, h3, h4, h5, h6, h7, h8, (fun _ => rfl), h10, h11, h12, h13, d10_11⟩
   · go_wp2_with fail
     rw [← zero128]
     exact hK _ (.pointer (some ⟨W2.heap.size, 0, none⟩)) _ (by simp only [Act.put, pA, pB, pC ]) ⟨hB.alloc hB.size _, (by simp; omega), (s0).alloc _, (s1).alloc _, (s2).alloc _, (s3).alloc _, h0, h1, h2, h3, h4, h5, h6, h7, h8, h9, (fun _ => (PF.new W2 128 151 _ hz).af), (fun h => (h11 h).below (zal _ _)), (fun h => absurd rfl (hn 12 _ rfl h ⟨10, .data⟩ (by simp) rfl)), (fun h => (h13 h).below (zal _ _)), (fun h g1 => Ne.symm ((h11 g1).ne_new))⟩
   · go_wp2_with fail
     rw [← z64]
     exact hK _ (.pointer (some ⟨W2.heap.size, 0, none⟩)) _ (by simp only [Act.put, pA, pB, pC ]) ⟨hB.alloc hB.size _, (by simp; omega), (s0).alloc _, (s1).alloc _, (s2).alloc _, (s3).alloc _, h0, h1, h2, h3, h4, h5, h6, h7, h8, h9, (fun h => (h10 h).below (zal _ _)), (fun _ => (PF.new W2 64 28 _ hz).af), (fun h => (h12 h).below (zal _ _)), (fun h => absurd rfl (hn 13 _ rfl h ⟨11, .data⟩ (by simp) rfl)), (fun h g1 => (h10 h).ne_new)⟩
   · have e8 := h8 (zdq hd 8 rfl)
     obtain ⟨gz, b, ea, hN, hk⟩ := (h10 (zdq hd 10 rfl)).out
     refine zsb 151 _ _ rfl b 128 (Q) ea e8 151 gz hk Try.size151 ?_
     exact hK _ undef _ rfl ⟨zr hB (Nat.le_trans hbase hN) _, (by simpa [World.setRow] using hz), (s0).rowOther (by omega), (s1).rowOther (by omega), (s2).rowOther (by omega), (s3).rowOther (by omega), h0, h1, h2, h3, h4, h5, h6, h7, h8, h9, (fun h => (h10 h).row hk), (fun h => (h11 h).row hk), (fun _ => by rw [show updV v 12 undef 10 = v 10 from rfl, ea]; exact PF.row hk hN _), (fun h => (h13 h).rowOther (by rw [← ea]; exact (Ne.symm (d10_11 (zdq hd 10 rfl) (zdq hd 11 rfl))))), d10_11⟩
   · have e9 := h9 (zdq hd 9 rfl)
     obtain ⟨gz, b, ea, hN, hk⟩ := (h11 (zdq hd 11 rfl)).out
     refine zsb 28 _ _ rfl b 64 (mmP p f g m) ea e9 28 gz hk Try.size28 ?_
     exact hK _ undef _ rfl ⟨zr hB (Nat.le_trans hbase hN) _, (by simpa [World.setRow] using hz), (s0).rowOther (by omega), (s1).rowOther (by omega), (s2).rowOther (by omega), (s3).rowOther (by omega), h0, h1, h2, h3, h4, h5, h6, h7, h8, h9, (fun h => (h10 h).row hk), (fun h => (h11 h).row hk), (fun h => (h12 h).rowOther (by rw [← ea]; exact (d10_11 (zdq hd 10 rfl) (zdq hd 11 rfl)))), (fun _ => by rw [show updV v 13 undef 11 = v 11 from rfl, ea]; exact PF.row hk hN _), d10_11⟩
 · intro L v W2 hL ⟨hB, hz, s0, s1, s2, s3, h0, h1, h2, h3, h4, h5, h6, h7, h8, h9, h10, h11, h12, h13, d10_11⟩
   have e0 := h0 (hL 0 (by decide))
   have e1 := h1 (hL 1 (by decide))
   have e2 := h2 (hL 2 (by decide))
   have e3 := h3 (hL 3 (by decide))
   have e4 := h4 (hL 4 (by decide))
   have e5 := h5 (hL 5 (by decide))
   have e6 := h6 (hL 6 (by decide))
   have e7 := h7 (hL 7 (by decide))
   have e8 := h8 (hL 8 (by decide))
   have e9 := h9 (hL 9 (by decide))
   obtain ⟨k1_10, e10, hNk1_10, hk1_10⟩ := (h12 (hL 12 (by decide))).out
   obtain ⟨k1_11, e11, hNk1_11, hk1_11⟩ := (h13 (hL 13 (by decide))).out
   have n10_11 := d10_11 (hL 10 (by decide)) (hL 11 (by decide))
   clear hL h0 h1 h2 h3 h4 h5 h6 h7 h8 h9 h10 h11 h12 h13 d10_11
   rw [e10, e11] at n10_11
   have mk1_10_11 : k1_10 ≠ k1_11 := fun h => n10_11 (by rw [h])
   clear n10_11
   simp only [Exit.then, e0, e1, e2, e3, e4, e5, e6, e7, e8, e9, e10, e11]
   clear e0 e1 e2 e3 e4 e5 e6 e7 e8 e9 e10 e11
   replace B0 := s0
   clear s0
   replace B1 := s1
   clear s1
   replace B2 := s2
   clear s2
   replace B3 := s3
   clear s3
   replace hb := hB
   clear hB
   have B4 := hk1_10
   clear hk1_10
   have zk1_10_0 : w.heap.size < k1_10 := by omega
   have zk1_10_1 : w.heap.size + 1 < k1_10 := by omega
   have zk1_10_2 : w.heap.size + 1 + 1 < k1_10 := by omega
   have zk1_10_3 : w.heap.size + 1 + 1 + 1 < k1_10 := by omega
   have B5 := hk1_11
   clear hk1_11
   have zk1_11_0 : w.heap.size < k1_11 := by omega
   have zk1_11_1 : w.heap.size + 1 < k1_11 := by omega
   have zk1_11_2 : w.heap.size + 1 + 1 < k1_11 := by omega
   have zk1_11_3 : w.heap.size + 1 + 1 + 1 < k1_11 := by omega
   clear hbase hz lt_B0 lt_B1 lt_B2 lt_B3
   go_upto_region 2 with (fail)
   have lt_B0 := B0.lt
   have lt_B1 := B1.lt
   have lt_B2 := B2.lt
   have lt_B3 := B3.lt
   have lt_B4 := B4.lt
   have lt_B5 := B5.lt
   go_wp2_with (first | rw [← z64] | (refine zla (.tmp 10) B5 Try.underlying28 Try.size28 ?_) | (refine zsr (.tmp 8) (.tmp 21) (mmP p f g m) B3 Try.size28 ?_; try simp only [Act.put]))
   obtain ⟨W3, hwo, hzQ⟩ : ∃ v : World, v = (W2.setRow (w.heap.size + 1 + 1 + 1) (zb 64 (mmP p f g m))) ∧ Blk v (w.heap.size) 64 28 (f) ∧ Blk v (w.heap.size + 1) 64 28 (g) ∧ Blk v (w.heap.size + 1 + 1) 64 28 (m) ∧ Blk v (w.heap.size + 1 + 1 + 1) 64 28 (mmP p f g m) ∧ Blk v (k1_10) 128 151 (Q) ∧ Blk v (k1_11) 64 28 (mmP p f g m) ∧ Below w.heap.size w v := ⟨_, rfl, (B0.rowOther (by omega)), (B1.rowOther (by omega)), (B2.rowOther (by omega)), (B3.row (mmP p f g m)), (B4.rowOther (by omega)), (B5.rowOther (by omega)), (zr hb (by omega) _)⟩
   rw [← hwo]
   clear hwo B0 B1 B2 B3 B4 B5 hb
   obtain ⟨B0, B1, B2, B3, B4, B5, hb⟩ := hzQ
   try simp only [Act.put, pA, pB, pC]
   refine bodyPost_ret (zrb rfl _ _ _ 64 28 5 _ rfl B3 Try.underlying28 Try.size28) rfl ⟨rfl, hb⟩
set_option maxRecDepth 100000 in
set_option maxHeartbeats 1600000 in
theorem l01Up_any (p : Nat) (f m : Nat → Nat) (w : World) (hpr : p = 2 ∨ p = 3 ∨ p = 5 ∨ p = 7) (lf : ∀ k, k < 64 → f k < p) (lm : ∀ k, k < 64 → m k < p) (h0 : 0 ≤ deg m) :
 Calls Try.prog 146 #[.int .i64 (p : Int), .agg (zb 64 f), .agg (zb 64 m)] w fun e w' => e = .returned (.agg (zb 64 (upP p f m))) ∧ Below w.heap.size w w' := by
 have p2 : 2 ≤ p := by omega
 have p7 : p ≤ 7 := by omega
 obtain ⟨d, hd⟩ : ∃ d : Nat, deg m = (d : Int) := ⟨(deg m).toNat, by omega⟩
 obtain ⟨d6, md, _⟩ := deg_top hd
 have HD := Lib.hid hd
 clear h0 hd
 go_enter Try.func146, Try.ntmps146
 go_upto_region 1 with (fail)
 rw [← z64]
 obtain ⟨W1, hwo⟩ : ∃ v : World, v = (((w.alloc (.cells (zb 64 (f)) 28)).alloc (.cells (zb 64 (m)) 28)).alloc (.cells (zb 64 fun _ => 0) 28)) := ⟨_, rfl⟩
 have B0 : Blk W1 (w.heap.size) 64 28 (f) := by subst hwo; have := (((Blk.new w 64 28 (f)).alloc (.cells (zb 64 (m)) 28)).alloc (.cells (zb 64 fun _ => 0) 28)); simpa using this
 have B1 : Blk W1 (w.heap.size + 1) 64 28 (m) := by subst hwo; have := ((Blk.new (w.alloc (.cells (zb 64 (f)) 28)) 64 28 (m)).alloc (.cells (zb 64 fun _ => 0) 28)); simpa using this
 have B2 : Blk W1 (w.heap.size + 1 + 1) 64 28 (fun _ => 0) := by subst hwo; have := (Blk.new ((w.alloc (.cells (zb 64 (f)) 28)).alloc (.cells (zb 64 (m)) 28)) 64 28 (fun _ => 0)); simpa using this
 have hb : Below w.heap.size w W1 := by subst hwo; exact ((((Below.refl _ _).alloc (Nat.le_refl _) _).alloc (by simp) _).alloc (by simp; omega) _)
 rw [← hwo]
 clear hwo
 go_upto_region 2 with (first | (refine zla (.tmp 5) B1 Try.underlying28 Try.size28 ?_) | (go_at_call 106; refine (l01Deg_any m _).mono ?_; rintro e W2 ⟨rfl, hW2⟩; replace B0 := B0.zw hW2; replace B1 := B1.zw hW2; replace B2 := B2.zw hW2; replace hb := (hb).trans (hW2.mono (hb).size); rw [HD.out]))
 by_cases hd0 : d = 0
 · have HV := Lib.hid (show zb 64 (upP p f m) = zb 64 (fun _ => 0) from zbc (fun i _ => by unfold upP; rw [HD.out, if_neg (by omega)]))
   subst hd0
   go_upto_region 3 with (fail)
   have lt_B0 := B0.lt
   have lt_B1 := B1.lt
   have lt_B2 := B2.lt
   go_wp2_with (first | rw [← z64] | (refine zsr (.tmp 6) (.tmp 17) (fun _ => 0) B2 Try.size28 ?_; try simp only [Act.put]))
   obtain ⟨W3, hwo, hzQ⟩ : ∃ v : World, v = (W2.setRow (w.heap.size + 1 + 1) (zb 64 (fun _ => 0))) ∧ Blk v (w.heap.size) 64 28 (f) ∧ Blk v (w.heap.size + 1) 64 28 (m) ∧ Blk v (w.heap.size + 1 + 1) 64 28 (fun _ => 0) ∧ Below w.heap.size w v := ⟨_, rfl, (B0.rowOther (by omega)), (B1.rowOther (by omega)), (B2.row (fun _ => 0)), (zr hb (by omega) _)⟩
   rw [← hwo]
   clear hwo B0 B1 B2 hb
   obtain ⟨B0, B1, B2, hb⟩ := hzQ
   try simp only [Act.put, pA, pB, pC]
   refine bodyPost_ret (zrb rfl _ _ _ 64 28 5 _ rfl B2 Try.underlying28 Try.size28) rfl ⟨by rw [HV.out], hb⟩
 · obtain ⟨D, rfl⟩ : ∃ D, d = D + 1 := ⟨d - 1, by omega⟩
   have e1 : ((D + 1 : Nat) : Int) = (D : Int) + 1 := by push_cast; rfl
   have HE := Lib.hid e1
   rw [e1]
   clear e1
   have cc := B0.cell (i := D) (by omega)
   have hfD := lf D (by omega)
   go_upto_region 4 with (fail)
   have lt_B0 := B0.lt
   have lt_B1 := B1.lt
   have lt_B2 := B2.lt
   go_upto_region 5 with (first | rw [← z64] | (refine wpList_store_blk rfl 28 (.tmp 9) (.tmp 23) rfl _ 64 (fun _ => 0) rfl rfl 28 _ ((Blk.new W2 64 28 (fun _ => 0))) Try.size28 ?_; try simp only [Act.put]))
   have lt_B0 := B0.lt
   have lt_B1 := B1.lt
   have lt_B2 := B2.lt
   have lhb := hb.size
   obtain ⟨W3, hwo, hzQ⟩ : ∃ v : World, v = ((W2.alloc (.cells (zb 64 fun _ => 0) 28)).setRow (W2.heap.size) (zb 64 (fun _ => 0))) ∧ Blk v (w.heap.size) 64 28 (f) ∧ Blk v (w.heap.size + 1) 64 28 (m) ∧ Blk v (w.heap.size + 1 + 1) 64 28 (fun _ => 0) ∧ Blk v (W2.heap.size) 64 28 (fun _ => 0) ∧ Below w.heap.size w v := ⟨_, rfl, ((B0.alloc (.cells (zb 64 fun _ => 0) 28)).rowOther (by omega)), ((B1.alloc (.cells (zb 64 fun _ => 0) 28)).rowOther (by omega)), ((B2.alloc (.cells (zb 64 fun _ => 0) 28)).rowOther (by omega)), ((Blk.new W2 64 28 (fun _ => 0)).row (fun _ => 0)), (zr (hb.alloc (by have := hb.size; simp; omega) (.cells (zb 64 fun _ => 0) 28)) (by omega) _)⟩
   rw [← hwo]
   clear hwo B0 B1 B2 hb
   obtain ⟨B0, B1, B2, B3, hb⟩ := hzQ
   obtain ⟨N1, hNN⟩ : ∃ n : Nat, n = W2.heap.size := ⟨_, rfl⟩
   rw [← hNN] at lt_B0 lt_B1 lt_B2 lhb B3 ⊢
   clear hNN
   have zN1_0 := lt_B0
   have zN1_1 := lt_B1
   have zN1_2 := lt_B2
   have zN1 := lhb
   clear lt_B0 lt_B1 lt_B2 lhb
   try simp only [Act.put, pA, pB, pC]
   clear cc
   go_wp2_with fail
   go_loopw [10] (fun i wr => ∃ k : Nat, 1 ≤ k ∧ k ≤ D + 1 ∧ i = .int .i64 (k : Int) ∧ Below w.heap.size w wr ∧ Blk wr w.heap.size 64 28 f ∧ Blk wr (w.heap.size + 1) 64 28 m ∧ Blk wr (w.heap.size + 1 + 1) 64 28 (fun _ => 0) ∧ Blk wr N1 64 28 (shA f k)) (fun i _ => D + 1 - (intOf i).toNat)
   case atStart => exact ⟨1, by omega, by omega, rfl, hb, B0, B1, B2, B3.congr (fun i _ => by unfold shA; rw [if_neg (by omega)])⟩
   case round =>
    clear hb B0 B1 B2 B3
    obtain ⟨k, hk1, hk2, rfl, hb, B0, B1, B2, B3⟩ := hrel
    by_cases hlt : k < D + 1
    · obtain ⟨j, rfl⟩ : ∃ j, k = j + 1 := ⟨k - 1, by omega⟩
      have c1 := B0.cell (i := j) (by omega)
      have c2 := B3.cell (i := j + 1) (by omega)
      have z2 := B3.frozen (j + 1)
      have hfj := lf j (by omega)
      have e1 : ((j + 1 : Nat) : Int) = (j : Int) + 1 := by push_cast; rfl
      have HJ := Lib.hid e1
      rw [e1]
      clear e1
      have hltI : (j : Int) + 1 < (D : Int) + 1 := by omega
      go_wp2_with fail
      go_roundw
      case rel =>
       refine ⟨j + 1 + 1, by omega, by omega, by rw [show ((j + 1 + 1 : Nat) : Int) = (j : Int) + 1 + 1 by omega], hb.setCell (by simp; omega) _, B0.setOther (by simp; omega), B1.setOther (by simp; omega), B2.setOther (by simp; omega), ?_⟩
       refine (B3.set (v := f j) rfl).congr (fun i _ => ?_)
       unfold upd shA
       by_cases h : i = j + 1
       · subst h; rw [if_pos rfl, if_pos (by omega), show j + 1 - 1 = j by omega]
       · rw [if_neg h]
         by_cases h2 : 1 ≤ i ∧ i < j + 1
         · rw [if_pos h2, if_pos (by omega)]
         · rw [if_neg h2, if_neg (by omega)]
      case measure => simp [intOf] <;> omega
    · obtain rfl : k = D + 1 := by omega
      have cm := B1.cell (i := D + 1) (by omega)
      have hmD := lm (D + 1) d6
      obtain ⟨iv1, iv2, iv3, _⟩ := invF hpr md hmD
      obtain ⟨inv, hinv⟩ : ∃ v, v = invN p (m (D + 1)) := ⟨_, rfl⟩
      have HN := Lib.hid (fun W => l01Inverse_any p (m (D + 1)) W hpr md hmD)
      rw [← hinv] at iv1 iv2 iv3 HN
      obtain ⟨m1, m2⟩ := small_nat_mul p7 hfD iv2
      obtain ⟨F, hF⟩ : ∃ F, F = f D * inv % p := ⟨_, rfl⟩
      have hFp : F < p := by rw [hF]; exact Nat.mod_lt _ (by omega)
      have hFe : ((f D : Int) * (inv : Int)).tmod (p : Int) = (F : Int) := by rw [hF, Int.tmod_eq_emod_of_nonneg m2]; push_cast; rfl
      have hFe2 : (f D : Int) * (inv : Int) % (p : Int) = (F : Int) := by rw [hF]; push_cast; rfl
      have HUF := Lib.hid (show upF p f m = F by unfold upF; rw [HD.out, Int.toNat_natCast, ← hinv, hF]; rfl)
      have HI := Lib.hid (And.intro hinv hF)
      clear hinv hF iv3
      go_wp2_with (go_at_call 128; refine (HN.out _).mono ?_; rintro e wS ⟨rfl, rfl⟩)
      clear cm hFe hFe2 m1 m2 HN
      go_loopw [12] (fun i wr => ∃ k : Nat, k ≤ D + 1 ∧ i = .int .i64 (k : Int) ∧ Below w.heap.size w wr ∧ Blk wr w.heap.size 64 28 f ∧ Blk wr (w.heap.size + 1) 64 28 m ∧ Blk wr (w.heap.size + 1 + 1) 64 28 (fun _ => 0) ∧ Blk wr N1 64 28 (fun i => if i < k then upP p f m i else shA f (D + 1) i)) (fun i _ => D + 1 - (intOf i).toNat)
      case atStart => exact ⟨0, by omega, rfl, hb, B0, B1, B2, B3.congr (fun i _ => by rw [if_neg (by omega)])⟩
      case round =>
       clear hb B0 B1 B2 B3
       obtain ⟨k, hk, rfl, hb, B0, B1, B2, B3⟩ := hrel
       by_cases hlt : k < D + 1
       · have c4 := B3.cell (i := k) (by omega)
         rw [if_neg (Nat.lt_irrefl k)] at c4
         have c5 := B1.cell (i := k) (by omega)
         have z4 := B3.frozen k
         obtain ⟨A, hA⟩ : ∃ A, A = shA f (D + 1) k := ⟨_, rfl⟩
         obtain ⟨M, hM⟩ : ∃ M, M = m k := ⟨_, rfl⟩
         have hAp : A < p := by
          rw [hA]; unfold shA; split
          · exact lf _ (by omega)
          · omega
         have hMp : M < p := by rw [hM]; exact lm k (by omega)
         have HU := Lib.hid (show upP p f m k = (A + (p - F) * M) % p by
          unfold upP; rw [HD.out, if_pos (by omega), Int.toNat_natCast, HUF.out, hA, hM])
         rw [← hA] at c4
         rw [← hM] at c5
         clear hA hM
         obtain ⟨m1, m2⟩ := small_nat_mul p7 hFp hMp
         have t1 : -(p : Int) < ((A : Int) - (F : Int) * (M : Int)).tmod p := by
          have := Int.tmod_lt_of_pos (-((A : Int) - (F : Int) * (M : Int))) (b := (p : Int)) (by omega)
          rw [Int.neg_tmod] at this; omega
         have t2 : ((A : Int) - (F : Int) * (M : Int)).tmod p < (p : Int) := Int.tmod_lt_of_pos _ (by omega)
         have hX : Hid (((A : Int) - (F : Int) * (M : Int)).tmod p % p % 256 = (upP p f m k : Int)) := by
          have e1 : ((A : Int) - (F : Int) * (M : Int)).tmod p % p = ((A : Int) - (F : Int) * (M : Int)) % p := by rw [Int.tmod_def, Int.sub_mul_emod_self_left]
          have e2 := Int.emod_nonneg ((A : Int) - (F : Int) * (M : Int)) (b := (p : Int)) (by omega)
          have e3 := Int.emod_lt_of_pos ((A : Int) - (F : Int) * (M : Int)) (b := (p : Int)) (by omega)
          rw [HU.out, e1, ← take_off (by omega : F ≤ p)]
          exact Int.emod_eq_of_lt e2 (by omega)
         have hm0 : (0 : Int) ≤ ((A : Int) - (F : Int) * (M : Int)).tmod p + p := by omega
         have hltI : (k : Int) < (D : Int) + 1 := by omega
         go_wp2_with fail
         go_region
         go_wp2_with fail
         go_roundw
         case rel =>
          refine ⟨k + 1, by omega, by go_num, (hb.setCell (by simp; omega) _).drew, (B0.setOther (by simp; omega)).drew, (B1.setOther (by simp; omega)).drew, (B2.setOther (by simp; omega)).drew, ?_⟩
          exact ((B3.set (v := upP p f m k) hX.out).congr (fun i _ => upd_lt (a := upP p f m) rfl i)).drew
         case measure => simp [intOf] <;> omega
       · obtain rfl : k = D + 1 := by omega
         have HV := Lib.hid (show zb 64 (fun i => if i < D + 1 then upP p f m i else shA f (D + 1) i) = zb 64 (upP p f m) from zbc (fun i _ => by
          by_cases h : i < D + 1
          · rw [if_pos h]
          · rw [if_neg h]; unfold shA upP; rw [if_neg (by omega), HD.out, if_neg (by omega)]))
         have hltI : ¬ ((D : Int) + 1 < (D : Int) + 1) := by omega
         rw [show (((D + 1 : Nat) : Int)) = (D : Int) + 1 by push_cast; rfl]
         go_wp2_with (first | (refine zla (.tmp 9) B3 Try.underlying28 Try.size28 ?_) | (refine wpList_store_blk rfl 28 (.tmp 6) (.tmp 70) rfl _ 64 _ rfl rfl 28 _ B2 Try.size28 ?_))
         refine bodyPost_ret (zrb rfl _ _ _ 64 28 5 _ rfl (B2.row _) Try.underlying28 Try.size28) rfl ⟨by rw [HV.out], zr hb (by omega) _⟩
end Go.Proofs.Ytelgefgphhebnaa
end
section
namespace Go.Proofs.Ytelgefgphhebnaa
open Go.RowKit
set_option linter.unusedVariables false
set_option linter.unusedSimpArgs false
attribute [local irreducible] deg invN dS qS stp stpr quoP resP oneP upP upF hmR mmP shA addK
set_option maxRecDepth 100000 in
set_option maxHeartbeats 1600000 in
theorem l01MulMod_any (p : Nat) (f g m : Nat → Nat) (w : World) (hpr : p = 2 ∨ p = 3 ∨ p = 5 ∨ p = 7) (lf : ∀ k, k < 64 → f k < p) (lg : ∀ k, k < 64 → g k < p) (lm : ∀ k, k < 64 → m k < p) (h0 : 0 ≤ deg m) :
 Calls Try.prog 113 #[.int .i64 (p : Int), .agg (zb 64 f), .agg (zb 64 g), .agg (zb 64 m)] w fun e w' => e = .returned (.agg (zb 64 (mmP p f g m))) ∧ Below w.heap.size w w' := by
 have p0 : 0 < p := by omega
 have p2 : 2 ≤ p := by omega
 have p7 : p ≤ 7 := by omega
 obtain ⟨gb1, gb2⟩ := zdb g
 obtain ⟨NN, hNN⟩ : ∃ NN : Nat, deg g + 1 = (NN : Int) := ⟨(deg g + 1).toNat, by omega⟩
 have HD := Lib.hid (show deg g = (NN : Int) - 1 by omega)
 have HV := Lib.hid (zbc (hmR_mmP (a := f) hpr lf lm h0 hNN))
 have HS := Lib.hid (fun j (hj : j ≤ NN - 1 + 1) => hmR_spec (n := NN - 1) (b := g) hpr lf lm h0 j hj)
 have hN6 : NN ≤ 64 := by omega
 have HUP := Lib.hid (fun (a : Nat → Nat) (ha : ∀ k, k < 64 → a k < p) W => l01Up_any p a m W hpr ha lm h0)
 have HMO := Lib.hid (fun (a : Nat → Nat) (ha : ∀ k, k < 64 → a k < p) W => l01Mod_any p a m W hpr ha lm h0)
 clear hNN
 go_enter Try.func113, Try.ntmps113
 go_upto_region 1 with (fail)
 rw [← z64]
 obtain ⟨W1, hwo⟩ : ∃ v : World, v = ((((w.alloc (.cells (zb 64 (f)) 28)).alloc (.cells (zb 64 (g)) 28)).alloc (.cells (zb 64 (m)) 28)).alloc (.cells (zb 64 fun _ => 0) 28)) := ⟨_, rfl⟩
 have B0 : Blk W1 (w.heap.size) 64 28 (f) := by subst hwo; have := ((((Blk.new w 64 28 (f)).alloc (.cells (zb 64 (g)) 28)).alloc (.cells (zb 64 (m)) 28)).alloc (.cells (zb 64 fun _ => 0) 28)); simpa using this
 have B1 : Blk W1 (w.heap.size + 1) 64 28 (g) := by subst hwo; have := (((Blk.new (w.alloc (.cells (zb 64 (f)) 28)) 64 28 (g)).alloc (.cells (zb 64 (m)) 28)).alloc (.cells (zb 64 fun _ => 0) 28)); simpa using this
 have B2 : Blk W1 (w.heap.size + 1 + 1) 64 28 (m) := by subst hwo; have := ((Blk.new ((w.alloc (.cells (zb 64 (f)) 28)).alloc (.cells (zb 64 (g)) 28)) 64 28 (m)).alloc (.cells (zb 64 fun _ => 0) 28)); simpa using this
 have B3 : Blk W1 (w.heap.size + 1 + 1 + 1) 64 28 (fun _ => 0) := by subst hwo; have := (Blk.new (((w.alloc (.cells (zb 64 (f)) 28)).alloc (.cells (zb 64 (g)) 28)).alloc (.cells (zb 64 (m)) 28)) 64 28 (fun _ => 0)); simpa using this
 have hb : Below w.heap.size w W1 := by subst hwo; exact (((((Below.refl _ _).alloc (Nat.le_refl _) _).alloc (by simp) _).alloc (by simp; omega) _).alloc (by simp; omega) _)
 rw [← hwo]
 clear hwo
 have lt_B0 := B0.lt
 have lt_B1 := B1.lt
 have lt_B2 := B2.lt
 have lt_B3 := B3.lt
 go_upto_region 2 with (first | rw [← z64] | (refine wpList_store_blk rfl 28 (.tmp 9) (.tmp 11) rfl _ 64 (fun _ => 0) rfl rfl 28 _ ((Blk.new W1 64 28 (fun _ => 0))) Try.size28 ?_; try simp only [Act.put]))
 have lt_B0 := B0.lt
 have lt_B1 := B1.lt
 have lt_B2 := B2.lt
 have lt_B3 := B3.lt
 have lhb := hb.size
 obtain ⟨W2, hwo, hzQ⟩ : ∃ v : World, v = ((W1.alloc (.cells (zb 64 fun _ => 0) 28)).setRow (W1.heap.size) (zb 64 (fun _ => 0))) ∧ Blk v (w.heap.size) 64 28 (f) ∧ Blk v (w.heap.size + 1) 64 28 (g) ∧ Blk v (w.heap.size + 1 + 1) 64 28 (m) ∧ Blk v (w.heap.size + 1 + 1 + 1) 64 28 (fun _ => 0) ∧ Blk v (W1.heap.size) 64 28 (fun _ => 0) ∧ Below w.heap.size w v := ⟨_, rfl, ((B0.alloc (.cells (zb 64 fun _ => 0) 28)).rowOther (by omega)), ((B1.alloc (.cells (zb 64 fun _ => 0) 28)).rowOther (by omega)), ((B2.alloc (.cells (zb 64 fun _ => 0) 28)).rowOther (by omega)), ((B3.alloc (.cells (zb 64 fun _ => 0) 28)).rowOther (by omega)), ((Blk.new W1 64 28 (fun _ => 0)).row (fun _ => 0)), (zr (hb.alloc (by have := hb.size; simp; omega) (.cells (zb 64 fun _ => 0) 28)) (by omega) _)⟩
 rw [← hwo]
 clear hwo B0 B1 B2 B3 hb
 obtain ⟨B0, B1, B2, B3, B4, hb⟩ := hzQ
 obtain ⟨N1, hNN⟩ : ∃ n : Nat, n = W1.heap.size := ⟨_, rfl⟩
 rw [← hNN] at lt_B0 lt_B1 lt_B2 lt_B3 lhb B4 ⊢
 clear hNN
 have zN1_0 := lt_B0
 have zN1_1 := lt_B1
 have zN1_2 := lt_B2
 have zN1_3 := lt_B3
 have zN1 := lhb
 clear lt_B0 lt_B1 lt_B2 lt_B3 lhb
 try simp only [Act.put, pA, pB, pC]
 go_upto_region 99 with (first | (refine zla (.tmp 6) B1 Try.underlying28 Try.size28 ?_) | (go_at_call 106; refine (l01Deg_any g _).mono ?_; rintro e W3 ⟨rfl, hW3⟩; replace B0 := B0.zw hW3; replace B1 := B1.zw hW3; replace B2 := B2.zw hW3; replace B3 := B3.zw hW3; replace B4 := B4.zw hW3; replace hb := (hb).trans (hW3.mono (hb).size); rw [HD.out]))
 go_loopw [10] (fun i wr => ∃ q j : Nat, Hid (q + j = NN) ∧ i = .int .i64 ((q : Int) - 1) ∧ Below w.heap.size w wr ∧ Blk wr w.heap.size 64 28 f ∧ Blk wr (w.heap.size + 1) 64 28 g ∧ Blk wr (w.heap.size + 1 + 1) 64 28 m ∧ Blk wr (w.heap.size + 1 + 1 + 1) 64 28 (fun _ => 0) ∧ Blk wr (N1) 64 28 (hmR p f g m (NN - 1) j)) (fun i _ => (intOf i + 1).toNat)
 case atStart => exact ⟨NN, 0, Lib.hid (by omega), rfl, hb, B0, B1, B2, B3, by rw [hmR_z]; exact B4⟩
 case round =>
  clear hb B0 B1 B2 B3 B4
  obtain ⟨q, j, hqj, rfl, hb, B0, B1, B2, B3, B4⟩ := hrel
  by_cases hq0 : q = 0
  · subst hq0
    have ej : j = NN := by have := hqj.out; omega
    rw [ej] at B4
    clear hqj ej
    go_upto_region 7 with (fail)
    have lt_B0 := B0.lt
    have lt_B1 := B1.lt
    have lt_B2 := B2.lt
    have lt_B3 := B3.lt
    have lt_B4 := B4.lt
    go_wp2_with (first | rw [← z64] | (refine zla (.tmp 9) B4 Try.underlying28 Try.size28 ?_) | (refine zsr (.tmp 8) (.tmp 33) (hmR p f g m (NN - 1) NN) B3 Try.size28 ?_; try simp only [Act.put]))
    obtain ⟨W4, hwo, hzQ⟩ : ∃ v : World, v = (wr.setRow (w.heap.size + 1 + 1 + 1) (zb 64 (hmR p f g m (NN - 1) NN))) ∧ Blk v (w.heap.size) 64 28 (f) ∧ Blk v (w.heap.size + 1) 64 28 (g) ∧ Blk v (w.heap.size + 1 + 1) 64 28 (m) ∧ Blk v (w.heap.size + 1 + 1 + 1) 64 28 (hmR p f g m (NN - 1) NN) ∧ Blk v (N1) 64 28 (hmR p f g m (NN - 1) NN) ∧ Below w.heap.size w v := ⟨_, rfl, (B0.rowOther (by omega)), (B1.rowOther (by omega)), (B2.rowOther (by omega)), (B3.row (hmR p f g m (NN - 1) NN)), (B4.rowOther (by omega)), (zr hb (by omega) _)⟩
    rw [← hwo]
    clear hwo B0 B1 B2 B3 B4 hb
    obtain ⟨B0, B1, B2, B3, B4, hb⟩ := hzQ
    try simp only [Act.put, pA, pB, pC]
    refine bodyPost_ret (zrb rfl _ _ _ 64 28 5 _ rfl B3 Try.underlying28 Try.size28) rfl ⟨by rw [HV.out], hb⟩
  · obtain ⟨q, rfl⟩ : ∃ t, q = t + 1 := ⟨q - 1, by omega⟩
    rw [show ((q + 1 : Nat) : Int) - 1 = (q : Int) by omega]
    have hq6 : q < 64 := by have := hqj.out; omega
    obtain ⟨s1, s2, _⟩ := HS.out j (by have := hqj.out; omega)
    have HS1 := Lib.hid s1
    have hgq := lg q hq6
    obtain ⟨C, hC⟩ : ∃ C, C = g q := ⟨_, rfl⟩
    rw [← hC] at hgq
    have HC := Lib.hid hC
    clear hC s1 s2
    have HA := Lib.hid (fun W => l01Add_any p (upP p (hmR p f g m (NN - 1) j) m) f (C : Int) W p2 p7 (by omega) (by omega) (fun k _ => upP_lt p0 k) lf)
    have HR := Lib.hid (show resP p (addK p (upP p (hmR p f g m (NN - 1) j) m) f (C : Int)) m = hmR p f g m (NN - 1) (j + 1) by
     rw [hmR_s, HC.out, show NN - 1 - j = q by have := hqj.out; omega])
    have HM2 := Lib.hid (show ∀ W, Calls Try.prog 64 #[.int .i64 (p : Int), .agg (zb 64 (addK p (upP p (hmR p f g m (NN - 1) j) m) f (C : Int))), .agg (zb 64 m)] W fun e w' => e = .returned (.agg (zb 64 (hmR p f g m (NN - 1) (j + 1)))) ∧ Below W.heap.size W w' by
     intro W
     have := HMO.out (addK p (upP p (hmR p f g m (NN - 1) j) m) f (C : Int)) (fun k _ => addK_lt p0 k) W
     rwa [HR.out] at this)
    go_upto_region 5 with (fail)
    have lt_B0 := B0.lt
    have lt_B1 := B1.lt
    have lt_B2 := B2.lt
    have lt_B3 := B3.lt
    have lt_B4 := B4.lt
    go_upto_region 6 with (first | rw [← z64] | (refine zla (.tmp 9) B4 Try.underlying28 Try.size28 ?_) | (refine zla (.tmp 7) B2 Try.underlying28 Try.size28 ?_) | (go_at_call 146; refine (HUP.out _ HS1.out _).mono ?_; rintro e W4 ⟨rfl, hW4⟩; replace B0 := B0.zw hW4; replace B1 := B1.zw hW4; replace B2 := B2.zw hW4; replace B3 := B3.zw hW4; replace B4 := B4.zw hW4; replace hb := (hb).trans (hW4.mono (hb).size)) | (refine zsr (.tmp 9) (.tmp 21) (upP p (hmR p f g m (NN - 1) j) m) B4 Try.size28 ?_; try simp only [Act.put]))
    obtain ⟨W5, hwo, hzQ⟩ : ∃ v : World, v = (W4.setRow (N1) (zb 64 (upP p (hmR p f g m (NN - 1) j) m))) ∧ Blk v (w.heap.size) 64 28 (f) ∧ Blk v (w.heap.size + 1) 64 28 (g) ∧ Blk v (w.heap.size + 1 + 1) 64 28 (m) ∧ Blk v (w.heap.size + 1 + 1 + 1) 64 28 (fun _ => 0) ∧ Blk v (N1) 64 28 (upP p (hmR p f g m (NN - 1) j) m) ∧ Below w.heap.size w v := ⟨_, rfl, (B0.rowOther (by omega)), (B1.rowOther (by omega)), (B2.rowOther (by omega)), (B3.rowOther (by omega)), (B4.row (upP p (hmR p f g m (NN - 1) j) m)), (zr hb (by omega) _)⟩
    rw [← hwo]
    clear hwo B0 B1 B2 B3 B4 hb
    obtain ⟨B0, B1, B2, B3, B4, hb⟩ := hzQ
    try simp only [Act.put, pA, pB, pC]
    have lt_B0 : (w.heap.size) < W5.heap.size := B0.lt
    have lt_B1 : (w.heap.size + 1) < W5.heap.size := B1.lt
    have lt_B2 : (w.heap.size + 1 + 1) < W5.heap.size := B2.lt
    have lt_B3 : (w.heap.size + 1 + 1 + 1) < W5.heap.size := B3.lt
    have lt_B4 : (N1) < W5.heap.size := B4.lt
    have hbase : w.heap.size ≤ W5.heap.size := hb.size
    refine zq Try.mixed (by kernel_rfl) (by kernel_rfl) (fun v => by (simp only [frL, Act.put, pA, pB, pC, Nat.reduceAdd, Nat.zero_add]; exact rfl))
     (fun L v W6 => Below w.heap.size w W6 ∧ W5.heap.size ≤ W6.heap.size ∧ Blk W6 (w.heap.size) 64 28 (f) ∧ Blk W6 (w.heap.size + 1) 64 28 (g) ∧ Blk W6 (w.heap.size + 1 + 1) 64 28 (m) ∧ Blk W6 (w.heap.size + 1 + 1 + 1) 64 28 (fun _ => 0) ∧ (∃ g, Blk W6 (N1) 64 28 (g)) ∧ (L 11 = false → Blk W6 (N1) 64 28 (upP p (hmR p f g m (NN - 1) j) m)) ∧ (L 11 = true → Blk W6 (N1) 64 28 (hmR p f g m (NN - 1) (j + 1))) ∧ (L 0 = true → v 0 = (.int .i64 (p : Int))) ∧ (L 1 = true → v 1 = (.int .i64 (p : Int))) ∧ (L 2 = true → v 2 = (.agg (zb 64 (upP p (hmR p f g m (NN - 1) j) m)))) ∧ (L 3 = true → v 3 = (.agg (zb 64 (f)))) ∧ (L 4 = true → v 4 = (.int .i64 (q : Int))) ∧ (L 5 = true → v 5 = (.pointer (some ⟨w.heap.size + 1, q, none⟩))) ∧ (L 6 = true → v 6 = (.int .u8 (C : Int))) ∧ (L 7 = true → v 7 = (.int .i64 (C : Int))) ∧ (L 8 = true → v 8 = (.agg (zb 64 (addK p (upP p (hmR p f g m (NN - 1) j) m) f (C : Int))))) ∧ (L 9 = true → v 9 = (.agg (zb 64 (m)))) ∧ (L 10 = true → v 10 = (.agg (zb 64 (hmR p f g m (NN - 1) (j + 1)))))) ?_ ?_ ?_
    · intro v hv0
      exact ⟨hb.drew, Nat.le_refl _, B0.drew, B1.drew, B2.drew, B3.drew, ⟨_, B4.drew⟩, (fun _ => B4.drew), (fun h => by cases h), (fun h => by cases h), (fun h => by cases h), (fun h => by cases h), (fun h => by cases h), (fun h => by cases h), (fun h => by cases h), (fun h => by cases h), (fun h => by cases h), (fun h => by cases h), (fun h => by cases h), (fun h => by cases h)⟩
    · refine (.cons rfl ?_ (.cons rfl ?_ (.cons rfl ?_ (.cons rfl ?_ (.cons rfl ?_ (.cons rfl ?_ (.cons rfl ?_ (.cons rfl ?_ (.cons rfl ?_ (.cons rfl ?_ (.cons rfl ?_ (.cons rfl ?_ (.nil _)))))))))))))
      all_goals intro L v W6 hd hn ⟨hB, hz, s0, s1, s2, s3, x4, q4, n4, h0, h1, h2, h3, h4, h5, h6, h7, h8, h9, h10⟩ K hK
      · go_wp2_with fail
        exact hK _ (.int .i64 (p : Int)) _ (by simp only [Act.put, pA, pB, pC ]) ⟨hB, hz, s0, s1, s2, s3, x4, q4, n4, (fun _ => rfl), h1, h2, h3, h4, h5, h6, h7, h8, h9, h10⟩
      · go_wp2_with fail
        exact hK _ (.int .i64 (p : Int)) _ (by simp only [Act.put, pA, pB, pC ]) ⟨hB, hz, s0, s1, s2, s3, x4, q4, n4, h0, (fun _ => rfl), h2, h3, h4, h5, h6, h7, h8, h9, h10⟩
      · have s4 := q4 (by
         cases hL : L 11 with
         | false => rfl
         | true => exact absurd rfl (hn 11 _ rfl hL ⟨2, .phase⟩ (by simp) rfl))
        refine zlc s4 Try.underlying28 Try.size28 ?_
        exact hK _ _ _ rfl ⟨hB, hz, s0, s1, s2, s3, x4, q4, n4, h0, h1, (fun _ => rfl), h3, h4, h5, h6, h7, h8, h9, h10⟩
      · refine zlc s0 Try.underlying28 Try.size28 ?_
        exact hK _ _ _ rfl ⟨hB, hz, s0, s1, s2, s3, x4, q4, n4, h0, h1, h2, (fun _ => rfl), h4, h5, h6, h7, h8, h9, h10⟩
      · go_wp2_with fail
        exact hK _ (.int .i64 (q : Int)) _ (by simp only [Act.put, pA, pB, pC ]) ⟨hB, hz, s0, s1, s2, s3, x4, q4, n4, h0, h1, h2, h3, (fun _ => rfl), h5, h6, h7, h8, h9, h10⟩
      · have e4 := h4 (zdq hd 4 rfl)
        go_wp2_with fail
        exact hK _ (.pointer (some ⟨w.heap.size + 1, q, none⟩)) _ (by simp only [Act.put, pA, pB, pC, e4]) ⟨hB, hz, s0, s1, s2, s3, x4, q4, n4, h0, h1, h2, h3, h4, (fun _ => rfl), h6, h7, h8, h9, h10⟩
      · have e5 := h5 (zdq hd 5 rfl)
        have cc := s1.cell (i := q) hq6
        rw [← HC.out] at cc
        go_wp2_with fail
        exact hK _ (.int .u8 (C : Int)) _ (by simp only [Act.put, pA, pB, pC, e5]) ⟨hB, hz, s0, s1, s2, s3, x4, q4, n4, h0, h1, h2, h3, h4, h5, (fun _ => rfl), h7, h8, h9, h10⟩
      · have e6 := h6 (zdq hd 6 rfl)
        go_wp2_with fail
        exact hK _ (.int .i64 (C : Int)) _ (by simp only [Act.put, pA, pB, pC, e6]) ⟨hB, hz, s0, s1, s2, s3, x4, q4, n4, h0, h1, h2, h3, h4, h5, h6, (fun _ => rfl), h8, h9, h10⟩
      · have e1 := h1 (zdq hd 1 rfl)
        have e2 := h2 (zdq hd 2 rfl)
        have e3 := h3 (zdq hd 3 rfl)
        have e7 := h7 (zdq hd 7 rfl)
        go_wp2_with (go_at_call 80; refine (HA.out _).mono ?_; rintro e wy ⟨rfl, hy⟩)
        exact hK _ (.agg (zb 64 (addK p (upP p (hmR p f g m (NN - 1) j) m) f (C : Int)))) _ (by simp only [Act.put, pA, pB, pC, e1, e2, e3, e7]) ⟨hB.trans (hy.mono hB.size), (Nat.le_trans hz hy.size), s0.zw hy, s1.zw hy, s2.zw hy, s3.zw hy, (let ⟨g, h⟩ := x4; ⟨g, h.zw hy⟩), (fun h => (q4 h).below hy (q4 h).lt), (fun h => (n4 h).below hy (n4 h).lt), h0, h1, h2, h3, h4, h5, h6, h7, (fun _ => rfl), h9, h10⟩
      · refine zlc s2 Try.underlying28 Try.size28 ?_
        exact hK _ _ _ rfl ⟨hB, hz, s0, s1, s2, s3, x4, q4, n4, h0, h1, h2, h3, h4, h5, h6, h7, h8, (fun _ => rfl), h10⟩
      · have e0 := h0 (zdq hd 0 rfl)
        have e8 := h8 (zdq hd 8 rfl)
        have e9 := h9 (zdq hd 9 rfl)
        go_wp2_with (go_at_call 64; refine (HM2.out _).mono ?_; rintro e wy ⟨rfl, hy⟩)
        exact hK _ (.agg (zb 64 (hmR p f g m (NN - 1) (j + 1)))) _ (by simp only [Act.put, pA, pB, pC, e0, e8, e9]) ⟨hB.trans (hy.mono hB.size), (Nat.le_trans hz hy.size), s0.zw hy, s1.zw hy, s2.zw hy, s3.zw hy, (let ⟨g, h⟩ := x4; ⟨g, h.zw hy⟩), (fun h => (q4 h).below hy (q4 h).lt), (fun h => (n4 h).below hy (n4 h).lt), h0, h1, h2, h3, h4, h5, h6, h7, h8, h9, (fun _ => rfl)⟩
      · have e10 := h10 (zdq hd 10 rfl)
        obtain ⟨gz, hk⟩ := x4
        refine zsb 28 _ _ rfl _ 64 (hmR p f g m (NN - 1) (j + 1)) rfl e10 28 gz hk Try.size28 ?_
        exact hK _ undef _ rfl ⟨zr hB (by omega) _, (by simpa [World.setRow] using hz), (s0).rowOther (by omega), (s1).rowOther (by omega), (s2).rowOther (by omega), (s3).rowOther (by omega), ⟨_, hk.row _⟩, (fun h => absurd h (by simp [setL])), (fun _ => hk.row _), h0, h1, h2, h3, h4, h5, h6, h7, h8, h9, h10⟩
    · intro L v W6 hL ⟨hB, hz, s0, s1, s2, s3, x4, q4, n4, h0, h1, h2, h3, h4, h5, h6, h7, h8, h9, h10⟩
      have r4 := n4 (hL 11 (by decide))
      have e0 := h0 (hL 0 (by decide))
      have e1 := h1 (hL 1 (by decide))
      have e2 := h2 (hL 2 (by decide))
      have e3 := h3 (hL 3 (by decide))
      have e4 := h4 (hL 4 (by decide))
      have e5 := h5 (hL 5 (by decide))
      have e6 := h6 (hL 6 (by decide))
      have e7 := h7 (hL 7 (by decide))
      have e8 := h8 (hL 8 (by decide))
      have e9 := h9 (hL 9 (by decide))
      have e10 := h10 (hL 10 (by decide))
      clear hL x4 q4 n4 h0 h1 h2 h3 h4 h5 h6 h7 h8 h9 h10
      simp only [Exit.then, e0, e1, e2, e3, e4, e5, e6, e7, e8, e9, e10]
      clear e0 e1 e2 e3 e4 e5 e6 e7 e8 e9 e10
      replace B0 := s0
      clear s0
      replace B1 := s1
      clear s1
      replace B2 := s2
      clear s2
      replace B3 := s3
      clear s3
      replace B4 := r4
      clear r4
      replace hb := hB
      clear hB
      clear hbase hz lt_B0 lt_B1 lt_B2 lt_B3 lt_B4
      go_wp2_with fail
      go_roundw
      case rel => exact ⟨q, j + 1, Lib.hid (by have := hqj.out; omega), rfl, hb, B0, B1, B2, B3, B4⟩
      case measure => simp [intOf] <;> omega
end Go.Proofs.Ytelgefgphhebnaa
end
section
namespace Go.Proofs.Ytelgefgphhebnaa
open Go.RowKit
set_option linter.unusedVariables false
set_option linter.unusedSimpArgs false
attribute [local irreducible] deg invN dS qS stp stpr quoP resP oneP upP upF hmR mmP shA addK
/-- squares and products, at most f more rounds -/
def pmR (p : Nat) (m : Nat → Nat) : Nat → Nat → (Nat → Nat) → (Nat → Nat) → (Nat → Nat)
 | 0, _, o, _ => o
 | f + 1, k, o, s => if k = 0 then o else pmR p m f (k / 2) (if k % 2 = 1 then mmP p o s m else o) (mmP p s s m)
theorem pmR_z {p f : Nat} {m o s : Nat → Nat} : pmR p m f 0 o s = o := by cases f <;> simp [pmR]
theorem pmR_odd {p f k : Nat} {m o s : Nat → Nat} (h0 : k ≠ 0) (h : k % 2 = 1) : pmR p m (f + 1) k o s = pmR p m f (k / 2) (mmP p o s m) (mmP p s s m) := by rw [pmR, if_neg h0, if_pos h]
theorem pmR_even {p f k : Nat} {m o s : Nat → Nat} (h0 : k ≠ 0) (h : ¬ k % 2 = 1) : pmR p m (f + 1) k o s = pmR p m f (k / 2) o (mmP p s s m) := by rw [pmR, if_neg h0, if_neg h]
/-- the model's power -/
def pmP (p : Nat) (a : Nat → Nat) (k : Nat) (m : Nat → Nat) : Nat → Nat := pmR p m 64 k (resP p oneP m) (resP p a m)
theorem pmR_spec {p : Nat} {m : Nat → Nat} (hp : p = 2 ∨ p = 3 ∨ p = 5 ∨ p = 7) (hm : ∀ k, k < 64 → m k < p) (h0 : 0 ≤ deg m) : ∀ (f k : Nat) (o s : Nat → Nat), k < 2 ^ f → (∀ i, i < 64 → o i < p) → (∀ i, i < 64 → s i < p) → deg o < deg m →
 (∀ i, i < 64 → pmR p m f k o s i < p) ∧ deg (pmR p m f k o s) < deg m ∧ rm p (lz m) (lz (pmR p m f k o s)) (mz (lz o) (pwz (lz s) k))
 | 0, k, o, s, hk, ho, hs, hd => by
  rw [Nat.pow_zero] at hk
  obtain rfl : k = 0 := by omega
  refine ⟨ho, hd, ?_⟩
  have : mz (lz o) (pwz (lz s) 0) = lz o := by rw [mz_comm]; exact mz_one _
  rw [this]; exact rm_refl _ _ _
 | f + 1, k, o, s, hk, ho, hs, hd => by
  have hp0 : 0 < p := by omega
  by_cases hz : k = 0
  · subst hz
    rw [pmR_z]
    refine ⟨ho, hd, ?_⟩
    have : mz (lz o) (pwz (lz s) 0) = lz o := by rw [mz_comm]; exact mz_one _
    rw [this]; exact rm_refl _ _ _
  · have hk2 : k / 2 < 2 ^ f := by rw [Nat.pow_succ] at hk; omega
    have hss : ∀ i, i < 64 → mmP p s s m i < p := fun i hi => mmP_lt hp0 i (by omega)
    have sq : rm p (lz m) (pwz (lz (mmP p s s m)) (k / 2)) (pwz (lz s) (2 * (k / 2))) := by
     rw [pwz_two]
     exact rm_symm (rm_pwz (fin_mz (fin_lz s) (fin_lz s)) (fin_lz _) (mmP_rm hp hm h0) _)
    by_cases ho2 : k % 2 = 1
    · rw [pmR_odd hz ho2]
      obtain ⟨a1, a2, a3⟩ := pmR_spec hp hm h0 f (k / 2) (mmP p o s m) (mmP p s s m) hk2 (fun i hi => mmP_lt hp0 i (by omega)) hss (mmP_deg hp hm h0)
      refine ⟨a1, a2, rm_trans a3 ?_⟩
      have e : mz (lz o) (pwz (lz s) k) = mz (mz (lz o) (lz s)) (pwz (lz s) (2 * (k / 2))) := by
       have : k = 2 * (k / 2) + 1 := by omega
       conv => lhs; rw [this]
       show mz (lz o) (mz (pwz (lz s) (2 * (k / 2))) (lz s)) = _
       rw [mz_comm (pwz (lz s) (2 * (k / 2))), ← mz_assoc]
      rw [e]
      exact rm_mz2 (fin_pwz (fin_lz _) _) (fin_mz (fin_lz o) (fin_lz s)) (rm_symm (mmP_rm hp hm h0)) sq
    · rw [pmR_even hz ho2]
      obtain ⟨a1, a2, a3⟩ := pmR_spec hp hm h0 f (k / 2) o (mmP p s s m) hk2 ho hss hd
      refine ⟨a1, a2, rm_trans a3 ?_⟩
      have e : k = 2 * (k / 2) := by omega
      conv => rhs; rw [e]
      exact rm_mz2 (fin_pwz (fin_lz _) _) (fin_lz o) (rm_refl _ _ _) sq
/-- the power's residue -/
theorem pmP_spec {p k : Nat} {a m : Nat → Nat} (hp : p = 2 ∨ p = 3 ∨ p = 5 ∨ p = 7) (ha : ∀ i, i < 64 → a i < p) (hm : ∀ k, k < 64 → m k < p) (h0 : 0 ≤ deg m) (hk : k < 2 ^ 64) :
 (∀ i, i < 64 → pmP p a k m i < p) ∧ deg (pmP p a k m) < deg m ∧ rm p (lz m) (lz (pmP p a k m)) (pwz (lz a) k) := by
 have hp0 : 0 < p := by omega
 have h1 : ∀ i, i < 64 → oneP i < p := fun i _ => by unfold oneP; split <;> omega
 obtain ⟨r1, r2, r3⟩ := pmR_spec hp hm h0 64 k (resP p oneP m) (resP p a m) hk (resP_lt hp0 h1) (resP_lt hp0 ha) (resP_deg hp h1 hm h0).1
 refine ⟨r1, r2, rm_trans r3 ?_⟩
 have e1 := res_rm hp h1 hm h0
 rw [one_lz] at e1
 have e2 := rm_pwz (fin_lz a) (fin_lz (resP p a m)) (res_rm hp ha hm h0) k
 have := rm_mz2 (fin_pwz (fin_lz (resP p a m)) k) fin_oneS (rm_symm e1) (rm_symm e2)
 have e3 : mz oneS (pwz (lz a) k) = pwz (lz a) k := mz_one _
 rwa [e3] at this
set_option maxRecDepth 100000 in
set_option maxHeartbeats 1600000 in
theorem l01PowMod_any (p : Nat) (f : Nat → Nat) (k0 : Nat) (m : Nat → Nat) (w : World) (hpr : p = 2 ∨ p = 3 ∨ p = 5 ∨ p = 7) (lf : ∀ k, k < 64 → f k < p) (lm : ∀ k, k < 64 → m k < p) (h0 : 0 ≤ deg m) (hk0 : (k0 : Int) ≤ 1000000000000) :
 Calls Try.prog 107 #[.int .i64 (p : Int), .agg (zb 64 f), .int .i64 (k0 : Int), .agg (zb 64 m)] w fun e w' => e = .returned (.agg (zb 64 (pmP p f k0 m))) ∧ Below w.heap.size w w' := by
 have p0 : 0 < p := by omega
 have l1 : ∀ i, i < 64 → oneP i < p := fun i _ => by unfold oneP; split <;> omega
 have HM1 := Lib.hid (fun W => l01Mod_any p oneP m W hpr l1 lm h0)
 have HM2 := Lib.hid (fun W => l01Mod_any p f m W hpr lf lm h0)
 have HMO := Lib.hid (show ∀ (x : Nat → Nat), (∀ k, k < 64 → x k < p) → ∀ W, Calls Try.prog 64 #[.int .i64 (p : Int), .agg (zb 64 x), .agg (zb 64 m)] W fun e w' => e = .returned (.agg (zb 64 (resP p x m))) ∧ Below W.heap.size W w' from fun x hx W => l01Mod_any p x m W hpr hx lm h0)
 have HL1 := Lib.hid l1; have HLF := Lib.hid lf
 have HMM := Lib.hid (fun (x y : Nat → Nat) (hx : ∀ k, k < 64 → x k < p) (hy : ∀ k, k < 64 → y k < p) W => l01MulMod_any p x y m W hpr hx hy lm h0)
 go_enter Try.func107, Try.ntmps107
 go_upto_region 1 with (fail)
 rw [← z64]
 obtain ⟨W1, hwo⟩ : ∃ v : World, v = (((w.alloc (.cells (zb 64 (f)) 28)).alloc (.cells (zb 64 (m)) 28)).alloc (.cells (zb 64 fun _ => 0) 28)) := ⟨_, rfl⟩
 have B0 : Blk W1 (w.heap.size) 64 28 (f) := by subst hwo; have := (((Blk.new w 64 28 (f)).alloc (.cells (zb 64 (m)) 28)).alloc (.cells (zb 64 fun _ => 0) 28)); simpa using this
 have B1 : Blk W1 (w.heap.size + 1) 64 28 (m) := by subst hwo; have := ((Blk.new (w.alloc (.cells (zb 64 (f)) 28)) 64 28 (m)).alloc (.cells (zb 64 fun _ => 0) 28)); simpa using this
 have B2 : Blk W1 (w.heap.size + 1 + 1) 64 28 (fun _ => 0) := by subst hwo; have := (Blk.new ((w.alloc (.cells (zb 64 (f)) 28)).alloc (.cells (zb 64 (m)) 28)) 64 28 (fun _ => 0)); simpa using this
 have hb : Below w.heap.size w W1 := by subst hwo; exact ((((Below.refl _ _).alloc (Nat.le_refl _) _).alloc (by simp) _).alloc (by simp; omega) _)
 rw [← hwo]
 clear hwo
 have lt_B0 : (w.heap.size) < W1.heap.size := B0.lt
 have lt_B1 : (w.heap.size + 1) < W1.heap.size := B1.lt
 have lt_B2 : (w.heap.size + 1 + 1) < W1.heap.size := B2.lt
 have hbase : w.heap.size ≤ W1.heap.size := hb.size
 refine zq Try.mixed (by kernel_rfl) (by kernel_rfl) (fun v => by (simp only [frL, Act.put, pA, pB, pC, Nat.reduceAdd, Nat.zero_add]; exact rfl))
  (fun L v W2 => Below w.heap.size w W2 ∧ W1.heap.size ≤ W2.heap.size ∧ Blk W2 (w.heap.size) 64 28 (f) ∧ Blk W2 (w.heap.size + 1) 64 28 (m) ∧ Blk W2 (w.heap.size + 1 + 1) 64 28 (fun _ => 0) ∧ (L 0 = true → v 0 = (.int .i64 (p : Int))) ∧ (L 1 = true → v 1 = (.agg (zb 64 (oneP)))) ∧ (L 2 = true → v 2 = (.agg (zb 64 (m)))) ∧ (L 3 = true → v 3 = (.agg (zb 64 (resP p oneP m)))) ∧ (L 4 = true → v 4 = (.int .i64 (p : Int))) ∧ (L 5 = true → v 5 = (.agg (zb 64 (f)))) ∧ (L 6 = true → v 6 = (.agg (zb 64 (m)))) ∧ (L 7 = true → v 7 = (.agg (zb 64 (resP p f m)))) ∧ (L 8 = true → AF (v 8) W2 W1.heap.size 64 28) ∧ (L 9 = true → AF (v 9) W2 W1.heap.size 64 28) ∧ (L 10 = true → PF (v 8) W2 W1.heap.size 64 28 (resP p oneP m)) ∧ (L 11 = true → PF (v 9) W2 W1.heap.size 64 28 (resP p f m)) ∧ (L 8 = true → L 9 = true → v 8 ≠ v 9)) ?_ ?_ ?_
 · intro v hv0
   exact ⟨hb.drew, Nat.le_refl _, B0.drew, B1.drew, B2.drew, (fun h => by cases h), (fun h => by cases h), (fun h => by cases h), (fun h => by cases h), (fun h => by cases h), (fun h => by cases h), (fun h => by cases h), (fun h => by cases h), (fun h => by cases h), (fun h => by cases h), (fun h => by cases h), (fun h => by cases h), (fun h => by cases h)⟩
 · refine (.cons rfl ?_ (.cons rfl ?_ (.cons rfl ?_ (.cons rfl ?_ (.cons rfl ?_ (.cons rfl ?_ (.cons rfl ?_ (.cons rfl ?_ (.cons rfl ?_ (.cons rfl ?_ (.cons rfl ?_ (.cons rfl ?_ (.nil _)))))))))))))
   all_goals intro L v W2 hd hn ⟨hB, hz, s0, s1, s2, h0, h1, h2, h3, h4, h5, h6, h7, h8, h9, h10, h11, d8_9⟩ K hK
   · go_wp2_with fail
     exact hK _ (.int .i64 (p : Int)) _ (by simp only [Act.put, pA, pB, pC ]) ⟨hB, hz, s0, s1, s2, (fun _ => rfl), h1, h2, h3, h4, h5, h6, h7, h8, h9, h10, h11, d8_9⟩
   · go_wp2_with (go_at_call 108; refine (l01One_any _).mono ?_; rintro e wy ⟨rfl, hy⟩)
     exact hK _ (.agg (zb 64 (oneP))) _ (by simp only [Act.put, pA, pB, pC ]) ⟨hB.trans (hy.mono hB.size), (Nat.le_trans hz hy.size), s0.zw hy, s1.zw hy, s2.zw hy, h0, (fun _ => rfl), h2, h3, h4, h5, h6, h7, (fun h => (h8 h).below hy), (fun h => (h9 h).below hy), (fun h => (h10 h).below hy), (fun h => (h11 h).below hy), d8_9⟩
   · refine zlc s1 Try.underlying28 Try.size28 ?_
     exact hK _ _ _ rfl ⟨hB, hz, s0, s1, s2, h0, h1, (fun _ => rfl), h3, h4, h5, h6, h7, h8, h9, h10, h11, d8_9⟩
   · have e0 := h0 (zdq hd 0 rfl)
     have e1 := h1 (zdq hd 1 rfl)
     have e2 := h2 (zdq hd 2 rfl)
     go_wp2_with (go_at_call 64; refine (HMO.out oneP HL1.out _).mono ?_; rintro e wy ⟨rfl, hy⟩)
     exact hK _ (.agg (zb 64 (resP p oneP m))) _ (by simp only [Act.put, pA, pB, pC, e0, e1, e2]) ⟨hB.trans (hy.mono hB.size), (Nat.le_trans hz hy.size), s0.zw hy, s1.zw hy, s2.zw hy, h0, h1, h2, (fun _ => rfl), h4, h5, h6, h7, (fun h => (h8 h).below hy), (fun h => (h9 h).below hy), (fun h => (h10 h).below hy), (fun h => (h11 h).below hy), d8_9⟩
   · go_wp2_with fail
     exact hK _ (.int .i64 (p : Int)) _ (by simp only [Act.put, pA, pB, pC ]) ⟨hB, hz, s0, s1, s2, h0, h1, h2, h3, (fun _ => rfl), h5, h6, h7, h8, h9, h10, h11, d8_9⟩
   · refine zlc s0 Try.underlying28 Try.size28 ?_
     exact hK _ _ _ rfl ⟨hB, hz, s0, s1, s2, h0, h1, h2, h3, h4, (fun _ => rfl), h6, h7, h8, h9, h10, h11, d8_9⟩
   · refine zlc s1 Try.underlying28 Try.size28 ?_
     exact hK _ _ _ rfl ⟨hB, hz, s0, s1, s2, h0, h1, h2, h3, h4, h5, (fun _ => rfl), h7, h8, h9, h10, h11, d8_9⟩
   · have e4 := h4 (zdq hd 4 rfl)
     have e5 := h5 (zdq hd 5 rfl)
     have e6 := h6 (zdq hd 6 rfl)
     go_wp2_with (go_at_call 64; refine (HMO.out f HLF.out _).mono ?_; rintro e wy ⟨rfl, hy⟩)
     exact hK _ (.agg (zb 64 (resP p f m))) _ (by simp only [Act.put, pA, pB, pC, e4, e5, e6]) ⟨hB.trans (hy.mono hB.size), (Nat.le_trans hz hy.size), s0.zw hy, s1.zw hy, s2.zw hy, h0, h1, h2, h3, h4, h5, h6, (fun _ => rfl), (fun h => (h8 h).below hy), (fun h => (h9 h).below hy), (fun h => (h10 h).below hy), (fun h => (h11 h).below hy), d8_9⟩
   · go_wp2_with fail
     rw [← z64]
     exact hK _ (.pointer (some ⟨W2.heap.size, 0, none⟩)) _ (by simp only [Act.put, pA, pB, pC ]) ⟨hB.alloc hB.size _, (by simp; omega), (s0).alloc _, (s1).alloc _, (s2).alloc _, h0, h1, h2, h3, h4, h5, h6, h7, (fun _ => (PF.new W2 64 28 _ hz).af), (fun h => (h9 h).below (zal _ _)), (fun h => absurd rfl (hn 10 _ rfl h ⟨8, .data⟩ (by simp) rfl)), (fun h => (h11 h).below (zal _ _)), (fun h g1 => Ne.symm ((h9 g1).ne_new))⟩
   · go_wp2_with fail
     rw [← z64]
     exact hK _ (.pointer (some ⟨W2.heap.size, 0, none⟩)) _ (by simp only [Act.put, pA, pB, pC ]) ⟨hB.alloc hB.size _, (by simp; omega), (s0).alloc _, (s1).alloc _, (s2).alloc _, h0, h1, h2, h3, h4, h5, h6, h7, (fun h => (h8 h).below (zal _ _)), (fun _ => (PF.new W2 64 28 _ hz).af), (fun h => (h10 h).below (zal _ _)), (fun h => absurd rfl (hn 11 _ rfl h ⟨9, .data⟩ (by simp) rfl)), (fun h g1 => (h8 h).ne_new)⟩
   · have e3 := h3 (zdq hd 3 rfl)
     obtain ⟨gz, b, ea, hN, hk⟩ := (h8 (zdq hd 8 rfl)).out
     refine zsb 28 _ _ rfl b 64 (resP p oneP m) ea e3 28 gz hk Try.size28 ?_
     exact hK _ undef _ rfl ⟨zr hB (Nat.le_trans hbase hN) _, (by simpa [World.setRow] using hz), (s0).rowOther (by omega), (s1).rowOther (by omega), (s2).rowOther (by omega), h0, h1, h2, h3, h4, h5, h6, h7, (fun h => (h8 h).row hk), (fun h => (h9 h).row hk), (fun _ => by rw [show updV v 10 undef 8 = v 8 from rfl, ea]; exact PF.row hk hN _), (fun h => (h11 h).rowOther (by rw [← ea]; exact (Ne.symm (d8_9 (zdq hd 8 rfl) (zdq hd 9 rfl))))), d8_9⟩
   · have e7 := h7 (zdq hd 7 rfl)
     obtain ⟨gz, b, ea, hN, hk⟩ := (h9 (zdq hd 9 rfl)).out
     refine zsb 28 _ _ rfl b 64 (resP p f m) ea e7 28 gz hk Try.size28 ?_
     exact hK _ undef _ rfl ⟨zr hB (Nat.le_trans hbase hN) _, (by simpa [World.setRow] using hz), (s0).rowOther (by omega), (s1).rowOther (by omega), (s2).rowOther (by omega), h0, h1, h2, h3, h4, h5, h6, h7, (fun h => (h8 h).row hk), (fun h => (h9 h).row hk), (fun h => (h10 h).rowOther (by rw [← ea]; exact (d8_9 (zdq hd 8 rfl) (zdq hd 9 rfl)))), (fun _ => by rw [show updV v 11 undef 9 = v 9 from rfl, ea]; exact PF.row hk hN _), d8_9⟩
 · intro L v W2 hL ⟨hB, hz, s0, s1, s2, h0, h1, h2, h3, h4, h5, h6, h7, h8, h9, h10, h11, d8_9⟩
   have e0 := h0 (hL 0 (by decide))
   have e1 := h1 (hL 1 (by decide))
   have e2 := h2 (hL 2 (by decide))
   have e3 := h3 (hL 3 (by decide))
   have e4 := h4 (hL 4 (by decide))
   have e5 := h5 (hL 5 (by decide))
   have e6 := h6 (hL 6 (by decide))
   have e7 := h7 (hL 7 (by decide))
   obtain ⟨k1_8, e8, hNk1_8, hk1_8⟩ := (h10 (hL 10 (by decide))).out
   obtain ⟨k1_9, e9, hNk1_9, hk1_9⟩ := (h11 (hL 11 (by decide))).out
   have n8_9 := d8_9 (hL 8 (by decide)) (hL 9 (by decide))
   clear hL h0 h1 h2 h3 h4 h5 h6 h7 h8 h9 h10 h11 d8_9
   rw [e8, e9] at n8_9
   have mk1_8_9 : k1_8 ≠ k1_9 := fun h => n8_9 (by rw [h])
   clear n8_9
   simp only [Exit.then, e0, e1, e2, e3, e4, e5, e6, e7, e8, e9]
   clear e0 e1 e2 e3 e4 e5 e6 e7 e8 e9
   replace B0 := s0
   clear s0
   replace B1 := s1
   clear s1
   replace B2 := s2
   clear s2
   replace hb := hB
   clear hB
   have B3 := hk1_8
   clear hk1_8
   have zk1_8_0 : w.heap.size < k1_8 := by omega
   have zk1_8_1 : w.heap.size + 1 < k1_8 := by omega
   have zk1_8_2 : w.heap.size + 1 + 1 < k1_8 := by omega
   have B4 := hk1_9
   clear hk1_9
   have zk1_9_0 : w.heap.size < k1_9 := by omega
   have zk1_9_1 : w.heap.size + 1 < k1_9 := by omega
   have zk1_9_2 : w.heap.size + 1 + 1 < k1_9 := by omega
   clear hbase hz lt_B0 lt_B1 lt_B2
   go_wp2_with fail
   go_loopw [2] (fun i wr => ∃ (q k : Nat) (po ps : Nat → Nat), Hid (pmP p f k0 m = pmR p m q k po ps) ∧ k < 2 ^ q ∧ (k : Int) ≤ 1000000000000 ∧ Hid (∀ i, i < 64 → po i < p) ∧ Hid (∀ i, i < 64 → ps i < p) ∧ i = .int .i64 (k : Int) ∧ Below w.heap.size w wr ∧ Blk wr (w.heap.size + 1) 64 28 m ∧ Blk wr (w.heap.size + 1 + 1) 64 28 (fun _ => 0) ∧ Blk wr k1_8 64 28 po ∧ Blk wr k1_9 64 28 ps) (fun i _ => (intOf i).toNat)
   case atStart => exact ⟨64, k0, _, _, Lib.hid rfl, (by have h6 : (1000000000000 : Nat) < 2 ^ 64 := (by decide); omega), hk0, Lib.hid (resP_lt p0 l1), Lib.hid (resP_lt p0 lf), rfl, hb, B1, B2, B3, B4⟩
   case round =>
    clear hb B0 B1 B2 B3 B4
    obtain ⟨q, k, po, ps, hP, hkq, hk, ho, hs, rfl, hb, B1, B2, B3, B4⟩ := hrel
    have HKQ := Lib.hid hkq
    clear hkq hk0
    by_cases hz : k = 0
    · subst hz
      have HV := Lib.hid (hP.out.trans pmR_z)
      go_upto_region 7 with (fail)
      have lt_B1 := B1.lt
      have lt_B2 := B2.lt
      have lt_B3 := B3.lt
      have lt_B4 := B4.lt
      go_wp2_with (first | rw [← z64] | (refine zla (.tmp 9) B3 Try.underlying28 Try.size28 ?_) | (refine zsr (.tmp 8) (.tmp 36) (po) B2 Try.size28 ?_; try simp only [Act.put]))
      obtain ⟨W3, hwo, hzQ⟩ : ∃ v : World, v = (wr.setRow (w.heap.size + 1 + 1) (zb 64 (po))) ∧ Blk v (w.heap.size + 1) 64 28 (m) ∧ Blk v (w.heap.size + 1 + 1) 64 28 (po) ∧ Blk v (k1_8) 64 28 (po) ∧ Blk v (k1_9) 64 28 (ps) ∧ Below w.heap.size w v := ⟨_, rfl, (B1.rowOther (by omega)), (B2.row (po)), (B3.rowOther (by omega)), (B4.rowOther (by omega)), (zr hb (by omega) _)⟩
      rw [← hwo]
      clear hwo B1 B2 B3 B4 hb
      obtain ⟨B1, B2, B3, B4, hb⟩ := hzQ
      try simp only [Act.put, pA, pB, pC]
      refine bodyPost_ret (zrb rfl _ _ _ 64 28 5 _ rfl B2 Try.underlying28 Try.size28) rfl ⟨by rw [HV.out], hb⟩
    · obtain ⟨q, rfl⟩ : ∃ t, q = t + 1 := ⟨q - 1, by have h1 := HKQ.out; have h2 : q ≠ 0 := (by intro h; rw [h, Nat.pow_zero] at h1; omega); omega⟩
      have hpos : (0 : Int) < (k : Int) := by omega
      by_cases hodd : k % 2 = 1
      · have hb1 : (((k : Int) % 2) == 1) = true := beq_iff_eq.2 (by omega)
        have hb2 : (((k : Int).tmod 2) == 1) = true := by rw [Int.tmod_eq_emod_of_nonneg (by omega)]; exact hb1
        have HV := Lib.hid (hP.out.trans (pmR_odd hz hodd))
        have HD := Lib.hid (show k / 2 < 2 ^ q by have := HKQ.out; rw [Nat.pow_succ] at this; omega)
        clear hodd hz hP
        go_upto_region 5 with (fail)
        clear hb1 hb2
        have lt_B1 := B1.lt
        have lt_B2 := B2.lt
        have lt_B3 := B3.lt
        have lt_B4 := B4.lt
        go_upto_region 6 with (first | rw [← z64] | (refine zla (.tmp 9) B3 Try.underlying28 Try.size28 ?_) | (refine zla (.tmp 10) B4 Try.underlying28 Try.size28 ?_) | (refine zla (.tmp 7) B1 Try.underlying28 Try.size28 ?_) | (go_at_call 113; refine (HMM.out po ps ho.out hs.out _).mono ?_; rintro e W3 ⟨rfl, hW3⟩; replace B1 := B1.zw hW3; replace B2 := B2.zw hW3; replace B3 := B3.zw hW3; replace B4 := B4.zw hW3; replace hb := (hb).trans (hW3.mono (hb).size)) | (refine zsr (.tmp 9) (.tmp 30) (mmP p po ps m) B3 Try.size28 ?_; try simp only [Act.put]))
        obtain ⟨W4, hwo, hzQ⟩ : ∃ v : World, v = (W3.setRow (k1_8) (zb 64 (mmP p po ps m))) ∧ Blk v (w.heap.size + 1) 64 28 (m) ∧ Blk v (w.heap.size + 1 + 1) 64 28 (fun _ => 0) ∧ Blk v (k1_8) 64 28 (mmP p po ps m) ∧ Blk v (k1_9) 64 28 (ps) ∧ Below w.heap.size w v := ⟨_, rfl, (B1.rowOther (by omega)), (B2.rowOther (by omega)), (B3.row (mmP p po ps m)), (B4.rowOther (by omega)), (zr hb (by omega) _)⟩
        rw [← hwo]
        clear hwo B1 B2 B3 B4 hb
        obtain ⟨B1, B2, B3, B4, hb⟩ := hzQ
        try simp only [Act.put, pA, pB, pC]
        have lt_B1 := B1.lt
        have lt_B2 := B2.lt
        have lt_B3 := B3.lt
        have lt_B4 := B4.lt
        go_wp2_with (first | rw [← z64] | (refine zla (.tmp 10) B4 Try.underlying28 Try.size28 ?_) | (refine zla (.tmp 10) B4 Try.underlying28 Try.size28 ?_) | (refine zla (.tmp 7) B1 Try.underlying28 Try.size28 ?_) | (go_at_call 113; refine (HMM.out ps ps hs.out hs.out _).mono ?_; rintro e W5 ⟨rfl, hW5⟩; replace B1 := B1.zw hW5; replace B2 := B2.zw hW5; replace B3 := B3.zw hW5; replace B4 := B4.zw hW5; replace hb := (hb).trans (hW5.mono (hb).size)) | (refine zsr (.tmp 10) (.tmp 35) (mmP p ps ps m) B4 Try.size28 ?_; try simp only [Act.put]))
        obtain ⟨W6, hwo, hzQ⟩ : ∃ v : World, v = (W5.setRow (k1_9) (zb 64 (mmP p ps ps m))) ∧ Blk v (w.heap.size + 1) 64 28 (m) ∧ Blk v (w.heap.size + 1 + 1) 64 28 (fun _ => 0) ∧ Blk v (k1_8) 64 28 (mmP p po ps m) ∧ Blk v (k1_9) 64 28 (mmP p ps ps m) ∧ Below w.heap.size w v := ⟨_, rfl, (B1.rowOther (by omega)), (B2.rowOther (by omega)), (B3.rowOther (by omega)), (B4.row (mmP p ps ps m)), (zr hb (by omega) _)⟩
        rw [← hwo]
        clear hwo B1 B2 B3 B4 hb
        obtain ⟨B1, B2, B3, B4, hb⟩ := hzQ
        try simp only [Act.put, pA, pB, pC]
        go_roundw
        case rel => exact ⟨q, k / 2, mmP p po ps m, mmP p ps ps m, HV, HD.out, by omega, Lib.hid (fun i hi => mmP_lt p0 i (by omega)), Lib.hid (fun i hi => mmP_lt p0 i (by omega)), by rw [show ((k / 2 : Nat) : Int) = (k : Int) / 2 by push_cast; rfl], hb, B1, B2, B3, B4⟩
        case measure => simp [intOf] <;> omega
      · have hb1 : (((k : Int) % 2) == 1) = false := beq_eq_false_iff_ne.2 (by omega)
        have hb2 : (((k : Int).tmod 2) == 1) = false := by rw [Int.tmod_eq_emod_of_nonneg (by omega)]; exact hb1
        have HV := Lib.hid (hP.out.trans (pmR_even hz hodd))
        have HD := Lib.hid (show k / 2 < 2 ^ q by have := HKQ.out; rw [Nat.pow_succ] at this; omega)
        clear hodd hz hP
        go_upto_region 6 with (fail)
        clear hb1 hb2
        have lt_B1 := B1.lt
        have lt_B2 := B2.lt
        have lt_B3 := B3.lt
        have lt_B4 := B4.lt
        go_wp2_with (first | rw [← z64] | (refine zla (.tmp 10) B4 Try.underlying28 Try.size28 ?_) | (refine zla (.tmp 10) B4 Try.underlying28 Try.size28 ?_) | (refine zla (.tmp 7) B1 Try.underlying28 Try.size28 ?_) | (go_at_call 113; refine (HMM.out ps ps hs.out hs.out _).mono ?_; rintro e W3 ⟨rfl, hW3⟩; replace B1 := B1.zw hW3; replace B2 := B2.zw hW3; replace B3 := B3.zw hW3; replace B4 := B4.zw hW3; replace hb := (hb).trans (hW3.mono (hb).size)) | (refine zsr (.tmp 10) (.tmp 35) (mmP p ps ps m) B4 Try.size28 ?_; try simp only [Act.put]))
        obtain ⟨W4, hwo, hzQ⟩ : ∃ v : World, v = (W3.setRow (k1_9) (zb 64 (mmP p ps ps m))) ∧ Blk v (w.heap.size + 1) 64 28 (m) ∧ Blk v (w.heap.size + 1 + 1) 64 28 (fun _ => 0) ∧ Blk v (k1_8) 64 28 (po) ∧ Blk v (k1_9) 64 28 (mmP p ps ps m) ∧ Below w.heap.size w v := ⟨_, rfl, (B1.rowOther (by omega)), (B2.rowOther (by omega)), (B3.rowOther (by omega)), (B4.row (mmP p ps ps m)), (zr hb (by omega) _)⟩
        rw [← hwo]
        clear hwo B1 B2 B3 B4 hb
        obtain ⟨B1, B2, B3, B4, hb⟩ := hzQ
        try simp only [Act.put, pA, pB, pC]
        go_roundw
        case rel => exact ⟨q, k / 2, po, mmP p ps ps m, HV, HD.out, by omega, ho, Lib.hid (fun i hi => mmP_lt p0 i (by omega)), by rw [show ((k / 2 : Nat) : Int) = (k : Int) / 2 by push_cast; rfl], hb, B1, B2, B3, B4⟩
        case measure => simp [intOf] <;> omega
end Go.Proofs.Ytelgefgphhebnaa
end
