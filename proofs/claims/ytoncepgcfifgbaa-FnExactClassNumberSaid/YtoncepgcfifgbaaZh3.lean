/-
  What the rows of this claim rest on: arrays of bytes, walks of the functions, plain mathematics.
-/
import Derived.Test.YtoncepgcfifgbaaZh2
import Derived.Maps.OwnOps
import Derived.DeepKeys4
import Derived.Carry
import Derived.Test.YtoncepgcfifgbaaProg
import Derived.OwnWalk
import Derived.Deep.MidRow
import Derived.Great.BuildSlice
import Derived.RangeFuncNested
import Derived.RangeFuncBound
import Derived.RangeFuncCalls
import Derived.RangeFuncLeaves
import Derived.Shelf.Abstract
import Derived.Shelf.RegionOpen
import Derived.OwnWalkIn
import Derived.TacticsInMore
import Derived.LoopNIn
import Derived.LoopIn
import Derived.Deep.CutBlock
section
namespace Go.Proofs.Ytoncepgcfifgbaa
open Go.RowKit
set_option linter.unusedVariables false
set_option linter.unusedSimpArgs false
attribute [local irreducible] deg invN dS qS stp stpr quoP resP oneP c3
theorem zero192 : zb 192 (fun _ => 0) = Try.zeroCells149 := by simp only [zb, bl]; kernel_rfl
theorem differenceS_any (p : Nat) (f g : Nat → Nat) (w : World) (hp1 : 2 ≤ p) (hp2 : p ≤ 7) (hf : ∀ i, i < 64 → f i < p) (hg : ∀ i, i < 64 → g i < p) :
 Calls Try.prog 158 #[.int .i64 (p : Int), .agg (zb 64 f), .agg (zb 64 g)] w fun e w' => e = .returned (.agg (zb 64 (subP p f g))) ∧ Below w.heap.size w w' := difference_any p f g w hp1 hp2 hf hg
set_option maxRecDepth 100000 in
set_option maxHeartbeats 3000000 in
theorem bezout_any (p : Nat) (A B : Nat → Nat) (w : World) (hp : p = 2 ∨ p = 3 ∨ p = 5 ∨ p = 7) (hA : ∀ k, k < 64 → A k < p) (hB : ∀ k, k < 64 → B k < p) (hd : 0 ≤ deg A ∨ 0 ≤ deg B) :
 Calls Try.prog 157 #[.int .i64 (p : Int), .agg (zb 64 A), .agg (zb 64 B)] w fun e w' => e = .returned (.tuple #[.agg (zb 64 (bzD p A B)), .agg (zb 64 (bzU p A B)), .agg (zb 64 (bzW p A B))]) ∧ Below w.heap.size w w' := by
 have p2 : 2 ≤ p := by omega
 have p7 : p ≤ 7 := by omega
 have p0 : 0 < p := by omega
 have HI0 := Lib.hid (bzI_start p2 hA hB hd)
 clear hA hB hd
 go_enter Try.func157, Try.ntmps157
 go_upto_region 1 with (fail)
 rw [← z64]
 obtain ⟨W1, hwo⟩ : ∃ v : World, v = (((((w.alloc (.cells (zb 64 (A)) 23)).alloc (.cells (zb 64 (B)) 23)).alloc (.cells (zb 64 fun _ => 0) 23)).alloc (.cells (zb 64 fun _ => 0) 23)).alloc (.cells (zb 64 fun _ => 0) 23)) := ⟨_, rfl⟩
 have B0 : Blk W1 (w.heap.size) 64 23 (A) := by subst hwo; have := (((((Blk.new w 64 23 (A)).alloc (.cells (zb 64 (B)) 23)).alloc (.cells (zb 64 fun _ => 0) 23)).alloc (.cells (zb 64 fun _ => 0) 23)).alloc (.cells (zb 64 fun _ => 0) 23)); simpa using this
 have B1 : Blk W1 (w.heap.size + 1) 64 23 (B) := by subst hwo; have := ((((Blk.new (w.alloc (.cells (zb 64 (A)) 23)) 64 23 (B)).alloc (.cells (zb 64 fun _ => 0) 23)).alloc (.cells (zb 64 fun _ => 0) 23)).alloc (.cells (zb 64 fun _ => 0) 23)); simpa using this
 have B2 : Blk W1 (w.heap.size + 1 + 1) 64 23 (fun _ => 0) := by subst hwo; have := (((Blk.new ((w.alloc (.cells (zb 64 (A)) 23)).alloc (.cells (zb 64 (B)) 23)) 64 23 (fun _ => 0)).alloc (.cells (zb 64 fun _ => 0) 23)).alloc (.cells (zb 64 fun _ => 0) 23)); simpa using this
 have B3 : Blk W1 (w.heap.size + 1 + 1 + 1) 64 23 (fun _ => 0) := by subst hwo; have := ((Blk.new (((w.alloc (.cells (zb 64 (A)) 23)).alloc (.cells (zb 64 (B)) 23)).alloc (.cells (zb 64 fun _ => 0) 23)) 64 23 (fun _ => 0)).alloc (.cells (zb 64 fun _ => 0) 23)); simpa using this
 have B4 : Blk W1 (w.heap.size + 1 + 1 + 1 + 1) 64 23 (fun _ => 0) := by subst hwo; have := (Blk.new ((((w.alloc (.cells (zb 64 (A)) 23)).alloc (.cells (zb 64 (B)) 23)).alloc (.cells (zb 64 fun _ => 0) 23)).alloc (.cells (zb 64 fun _ => 0) 23)) 64 23 (fun _ => 0)); simpa using this
 have hb : Below w.heap.size w W1 := by subst hwo; exact ((((((Below.refl _ _).alloc (Nat.le_refl _) _).alloc (by simp) _).alloc (by simp; omega) _).alloc (by simp; omega) _).alloc (by simp; omega) _)
 rw [← hwo]
 clear hwo
 have lt_B0 : (w.heap.size) < W1.heap.size := B0.lt
 have lt_B1 : (w.heap.size + 1) < W1.heap.size := B1.lt
 have lt_B2 : (w.heap.size + 1 + 1) < W1.heap.size := B2.lt
 have lt_B3 : (w.heap.size + 1 + 1 + 1) < W1.heap.size := B3.lt
 have lt_B4 : (w.heap.size + 1 + 1 + 1 + 1) < W1.heap.size := B4.lt
 have hbase : w.heap.size ≤ W1.heap.size := hb.size
 refine zq Try.mixed (by kernel_rfl) (by kernel_rfl) (fun v => by (simp only [frL, Act.put, pA, pB, pC, Nat.reduceAdd, Nat.zero_add]; exact rfl))
  (fun L v W2 => Below w.heap.size w W2 ∧ W1.heap.size ≤ W2.heap.size ∧ Blk W2 (w.heap.size) 64 23 (A) ∧ Blk W2 (w.heap.size + 1) 64 23 (B) ∧ Blk W2 (w.heap.size + 1 + 1) 64 23 (fun _ => 0) ∧ Blk W2 (w.heap.size + 1 + 1 + 1) 64 23 (fun _ => 0) ∧ Blk W2 (w.heap.size + 1 + 1 + 1 + 1) 64 23 (fun _ => 0) ∧ (L 0 = true → v 0 = (.agg (zb 64 (A)))) ∧ (L 1 = true → v 1 = (.agg (zb 64 (oneP)))) ∧ (L 2 = true → v 2 = (.agg (zb 192 (c3 A oneP (fun _ => 0))))) ∧ (L 3 = true → v 3 = (.agg (zb 64 (B)))) ∧ (L 4 = true → v 4 = (.agg (zb 64 (oneP)))) ∧ (L 5 = true → v 5 = (.agg (zb 192 (c3 B (fun _ => 0) oneP)))) ∧ (L 6 = true → AF (v 6) W2 W1.heap.size 192 149) ∧ (L 7 = true → AF (v 7) W2 W1.heap.size 192 149) ∧ (L 8 = true → PF (v 6) W2 W1.heap.size 192 149 (c3 A oneP (fun _ => 0))) ∧ (L 9 = true → PF (v 7) W2 W1.heap.size 192 149 (c3 B (fun _ => 0) oneP)) ∧ (L 6 = true → L 7 = true → v 6 ≠ v 7)) ?_ ?_ ?_
 · intro v hv0
   exact ⟨hb.drew, Nat.le_refl _, B0.drew, B1.drew, B2.drew, B3.drew, B4.drew, (fun h => by cases h), (fun h => by cases h), (fun h => by cases h), (fun h => by cases h), (fun h => by cases h), (fun h => by cases h), (fun h => by cases h), (fun h => by cases h), (fun h => by cases h), (fun h => by cases h), (fun h => by cases h)⟩
 · refine (.cons rfl ?_ (.cons rfl ?_ (.cons rfl ?_ (.cons rfl ?_ (.cons rfl ?_ (.cons rfl ?_ (.cons rfl ?_ (.cons rfl ?_ (.cons rfl ?_ (.cons rfl ?_ (.nil _)))))))))))
   all_goals intro L v W2 hd hn ⟨hB, hz, s0, s1, s2, s3, s4, h0, h1, h2, h3, h4, h5, h6, h7, h8, h9, d6_7⟩ K hK
   · refine zlc s0 Try.underlying23 Try.size23 ?_
     exact hK _ _ _ rfl ⟨hB, hz, s0, s1, s2, s3, s4, (fun _ => rfl), h1, h2, h3, h4, h5, h6, h7, h8, h9, d6_7⟩
   · refine wp_build_of 23 _ rfl (zb 64 oneP) (by rw [Array.toList_map]; show Try.prog.built 23 [(0, .int .u8 1)] = some (zb 64 oneP); exact built_one) ?_
     exact hK _ _ _ rfl ⟨hB, hz, s0, s1, s2, s3, s4, h0, (fun _ => rfl), h2, h3, h4, h5, h6, h7, h8, h9, d6_7⟩
   · have e0 := h0 (zdq hd 0 rfl)
     have e1 := h1 (zdq hd 1 rfl)
     refine wp_build_of 149 _ rfl (zb 192 (c3 A oneP (fun _ => 0))) (by rw [Array.toList_map]; show Try.prog.built 149 [(0, v 0), (1, v 1)] = some (zb 192 (c3 A oneP (fun _ => 0))); rw [e0, e1]; exact built_ru A oneP) ?_
     exact hK _ _ _ rfl ⟨hB, hz, s0, s1, s2, s3, s4, h0, h1, (fun _ => rfl), h3, h4, h5, h6, h7, h8, h9, d6_7⟩
   · refine zlc s1 Try.underlying23 Try.size23 ?_
     exact hK _ _ _ rfl ⟨hB, hz, s0, s1, s2, s3, s4, h0, h1, h2, (fun _ => rfl), h4, h5, h6, h7, h8, h9, d6_7⟩
   · refine wp_build_of 23 _ rfl (zb 64 oneP) (by rw [Array.toList_map]; show Try.prog.built 23 [(0, .int .u8 1)] = some (zb 64 oneP); exact built_one) ?_
     exact hK _ _ _ rfl ⟨hB, hz, s0, s1, s2, s3, s4, h0, h1, h2, h3, (fun _ => rfl), h5, h6, h7, h8, h9, d6_7⟩
   · have e3 := h3 (zdq hd 3 rfl)
     have e4 := h4 (zdq hd 4 rfl)
     refine wp_build_of 149 _ rfl (zb 192 (c3 B (fun _ => 0) oneP)) (by rw [Array.toList_map]; show Try.prog.built 149 [(0, v 3), (2, v 4)] = some (zb 192 (c3 B (fun _ => 0) oneP)); rw [e3, e4]; exact built_rv B oneP) ?_
     exact hK _ _ _ rfl ⟨hB, hz, s0, s1, s2, s3, s4, h0, h1, h2, h3, h4, (fun _ => rfl), h6, h7, h8, h9, d6_7⟩
   · go_wp2_with fail
     rw [← zero192]
     exact hK _ (.pointer (some ⟨W2.heap.size, 0, none⟩)) _ (by simp only [Act.put, pA, pB, pC ]) ⟨hB.alloc hB.size _, (by simp; omega), (s0).alloc _, (s1).alloc _, (s2).alloc _, (s3).alloc _, (s4).alloc _, h0, h1, h2, h3, h4, h5, (fun _ => (PF.new W2 192 149 _ hz).af), (fun h => (h7 h).below (zal _ _)), (fun h => absurd rfl (hn 8 _ rfl h ⟨6, .data⟩ (by simp) rfl)), (fun h => (h9 h).below (zal _ _)), (fun h g1 => Ne.symm ((h7 g1).ne_new))⟩
   · go_wp2_with fail
     rw [← zero192]
     exact hK _ (.pointer (some ⟨W2.heap.size, 0, none⟩)) _ (by simp only [Act.put, pA, pB, pC ]) ⟨hB.alloc hB.size _, (by simp; omega), (s0).alloc _, (s1).alloc _, (s2).alloc _, (s3).alloc _, (s4).alloc _, h0, h1, h2, h3, h4, h5, (fun h => (h6 h).below (zal _ _)), (fun _ => (PF.new W2 192 149 _ hz).af), (fun h => (h8 h).below (zal _ _)), (fun h => absurd rfl (hn 9 _ rfl h ⟨7, .data⟩ (by simp) rfl)), (fun h g1 => (h6 h).ne_new)⟩
   · have e2 := h2 (zdq hd 2 rfl)
     obtain ⟨gz, b, ea, hN, hk⟩ := (h6 (zdq hd 6 rfl)).out
     refine zsb 149 _ _ rfl b 192 (c3 A oneP (fun _ => 0)) ea e2 149 gz hk Try.size149 ?_
     exact hK _ undef _ rfl ⟨zr hB (Nat.le_trans hbase hN) _, (by simpa [World.setRow] using hz), (s0).rowOther (by omega), (s1).rowOther (by omega), (s2).rowOther (by omega), (s3).rowOther (by omega), (s4).rowOther (by omega), h0, h1, h2, h3, h4, h5, (fun h => (h6 h).row hk), (fun h => (h7 h).row hk), (fun _ => by rw [show updV v 8 undef 6 = v 6 from rfl, ea]; exact PF.row hk hN _), (fun h => (h9 h).rowOther (by rw [← ea]; exact (Ne.symm (d6_7 (zdq hd 6 rfl) (zdq hd 7 rfl))))), d6_7⟩
   · have e5 := h5 (zdq hd 5 rfl)
     obtain ⟨gz, b, ea, hN, hk⟩ := (h7 (zdq hd 7 rfl)).out
     refine zsb 149 _ _ rfl b 192 (c3 B (fun _ => 0) oneP) ea e5 149 gz hk Try.size149 ?_
     exact hK _ undef _ rfl ⟨zr hB (Nat.le_trans hbase hN) _, (by simpa [World.setRow] using hz), (s0).rowOther (by omega), (s1).rowOther (by omega), (s2).rowOther (by omega), (s3).rowOther (by omega), (s4).rowOther (by omega), h0, h1, h2, h3, h4, h5, (fun h => (h6 h).row hk), (fun h => (h7 h).row hk), (fun h => (h8 h).rowOther (by rw [← ea]; exact (d6_7 (zdq hd 6 rfl) (zdq hd 7 rfl)))), (fun _ => by rw [show updV v 9 undef 7 = v 7 from rfl, ea]; exact PF.row hk hN _), d6_7⟩
 · intro L v W2 hL ⟨hB, hz, s0, s1, s2, s3, s4, h0, h1, h2, h3, h4, h5, h6, h7, h8, h9, d6_7⟩
   have e0 := h0 (hL 0 (by decide))
   have e1 := h1 (hL 1 (by decide))
   have e2 := h2 (hL 2 (by decide))
   have e3 := h3 (hL 3 (by decide))
   have e4 := h4 (hL 4 (by decide))
   have e5 := h5 (hL 5 (by decide))
   obtain ⟨k1_6, e6, hNk1_6, hk1_6⟩ := (h8 (hL 8 (by decide))).out
   obtain ⟨k1_7, e7, hNk1_7, hk1_7⟩ := (h9 (hL 9 (by decide))).out
   have n6_7 := d6_7 (hL 6 (by decide)) (hL 7 (by decide))
   clear hL h0 h1 h2 h3 h4 h5 h6 h7 h8 h9 d6_7
   rw [e6, e7] at n6_7
   have mk1_6_7 : k1_6 ≠ k1_7 := fun h => n6_7 (by rw [h])
   clear n6_7
   simp only [Exit.then, e0, e1, e2, e3, e4, e5, e6, e7]
   clear e0 e1 e2 e3 e4 e5 e6 e7
   replace B0 := s0
   clear s0
   replace B1 := s1
   clear s1
   replace B2 := s2
   clear s2
   replace B3 := s3
   clear s3
   replace B4 := s4
   clear s4
   replace hb := hB
   clear hB
   have B5 := hk1_6
   clear hk1_6
   have zk1_6_0 : w.heap.size < k1_6 := by omega
   have zk1_6_1 : w.heap.size + 1 < k1_6 := by omega
   have zk1_6_2 : w.heap.size + 1 + 1 < k1_6 := by omega
   have zk1_6_3 : w.heap.size + 1 + 1 + 1 < k1_6 := by omega
   have zk1_6_4 : w.heap.size + 1 + 1 + 1 + 1 < k1_6 := by omega
   have B6 := hk1_7
   clear hk1_7
   have zk1_7_0 : w.heap.size < k1_7 := by omega
   have zk1_7_1 : w.heap.size + 1 < k1_7 := by omega
   have zk1_7_2 : w.heap.size + 1 + 1 < k1_7 := by omega
   have zk1_7_3 : w.heap.size + 1 + 1 + 1 < k1_7 := by omega
   have zk1_7_4 : w.heap.size + 1 + 1 + 1 + 1 < k1_7 := by omega
   clear hbase hz lt_B0 lt_B1 lt_B2 lt_B3 lt_B4
   have hl9 := B5.lt
   have hl10 := B6.lt
   go_wp2_with fail
   go_loopw [25] (fun i wr => ∃ (k : Nat) (pa pb pu px pv py : Nat → Nat), bzV p A B = bzRun p k pa pb pu px pv py ∧ deg pb + 1 ≤ (k : Int) ∧ bzI p pa pb pu px pv py ∧ Below w.heap.size w wr ∧ Blk wr k1_6 192 149 (c3 pa pu pv) ∧ Blk wr k1_7 192 149 (c3 pb px py) ∧ Blk wr (w.heap.size + 1 + 1) 64 23 (fun _ => 0) ∧ Blk wr (w.heap.size + 1 + 1 + 1) 64 23 (fun _ => 0) ∧ Blk wr (w.heap.size + 1 + 1 + 1 + 1) 64 23 (fun _ => 0)) (fun _ wr => degAt wr k1_7)
   case atStart => exact ⟨65, A, B, oneP, fun _ => 0, fun _ => 0, oneP, rfl, by have := zdb B; omega, HI0.out, hb, B5, B6, B2, B3, B4⟩
   case round =>
    clear hb B0 B1 B2 B3 B4 B5 B6 hl9 hl10
    obtain ⟨k, pa, pb, pu, px, pv, py, hrun, hk, hI, hb, B5, B6, B2, B3, B4⟩ := hrel
    have ⟨ia, ib, iu, ix, iv, iy, d1, d2, d3, d4, d5⟩ := hI
    have hgd := Try.noGuard23
    by_cases hz : deg pb < 0
    · have heq := fun W => zeb (P := Try.prog) W 9998 23 5 64 pb (fun _ => 0) Try.underlying23 Try.underlying5 Try.size5
      rw [eqN_zero, show decide (deg pb < 0) = true by simp [hz]] at heq
      simp only [z64] at heq
      have hV := hrun.trans (bzRun_stop hz)
      obtain ⟨m, hm⟩ : ∃ m : Nat, deg pa = (m : Int) := ⟨(deg pa).toNat, by omega⟩
      obtain ⟨hm6, ham, _⟩ := deg_top hm
      obtain ⟨c, hc⟩ : ∃ c, c = bzC p A B := ⟨_, rfl⟩
      have hci : invN p (pa m) = c := by rw [hc]; unfold bzC; rw [hV]; show invN p (pa m) = invN p (pa (deg pa).toNat); rw [hm]; rfl
      have hcp : c < p := by rw [← hci]; exact (invF hp ham (ia m hm6)).2.1
      have HR := Lib.hid (show bzD p A B = sclP p pa c ∧ bzU p A B = sclP p pu c ∧ bzW p A B = sclP p pv c by
       unfold bzD bzU bzW; rw [← hc, hV]; exact ⟨rfl, rfl, rfl⟩)
      have HM := Lib.hid hm
      have HC := Lib.hid hci
      have HIA := Lib.hid ia; have HIU := Lib.hid iu; have HIV := Lib.hid iv
      clear hV hrun hI hk ib ix iy d1 d2 d3 d4 d5 hc hci hm ia iu iv
      go_upto_region 7 with (first | (refine wpList_load_mid (op := ⟨some 23, _, _, _, _, _⟩) rfl 23 (.tmp 22) rfl _ 0 rfl (bl 64 pb) _ (B6.mid (by omega) (c3_0 _ _ _)) Try.underlying23 rfl (by rw [zl]; exact Try.size23) ?_))
      clear heq hgd
      go_upto_region 8 with (first | (refine wpList_load_mid (op := ⟨some 60, _, _, _, _, _⟩) rfl 23 (.tmp 59) rfl _ 0 rfl (bl 64 (pa)) _ ((B5).mid (by omega) (c3_0 _ _ _)) Try.underlying23 rfl (by rw [zl]; exact Try.size23) ?_) | (go_at_call 92; refine (degree_any _ _).mono ?_; rintro e W3 ⟨rfl, hW3⟩; replace B2 := B2.zw hW3; replace B3 := B3.zw hW3; replace B4 := B4.zw hW3; replace B5 := B5.zw hW3; replace B6 := B6.zw hW3; replace hb := (hb).trans (hW3.mono (hb).size); rw [HM.out]; have c0 := B5.cell (i := m) (by omega); rw [show c3 pa pu pv m = pa m by have := c3_0 pa pu pv m hm6; rwa [Nat.zero_add] at this] at c0) | (go_at_call 178; refine (inverseNumber_any p (pa m) _ hp ham (HIA.out m hm6)).mono ?_; rintro e wS ⟨rfl, rfl⟩; rw [HC.out]))
      try clear c0
      have lt_B2 : (w.heap.size + 1 + 1) < W3.heap.size := B2.lt
      have lt_B3 : (w.heap.size + 1 + 1 + 1) < W3.heap.size := B3.lt
      have lt_B4 : (w.heap.size + 1 + 1 + 1 + 1) < W3.heap.size := B4.lt
      have lt_B5 : (k1_6) < W3.heap.size := B5.lt
      have lt_B6 : (k1_7) < W3.heap.size := B6.lt
      have hbase : w.heap.size ≤ W3.heap.size := hb.size
      refine zq Try.mixed (by kernel_rfl) (by kernel_rfl) (fun v => by (simp only [frL, Act.put, pA, pB, pC, Nat.reduceAdd, Nat.zero_add]; exact rfl))
       (fun L v W4 => Below w.heap.size w W4 ∧ W3.heap.size ≤ W4.heap.size ∧ (∃ g, Blk W4 (w.heap.size + 1 + 1) 64 23 (g)) ∧ (L 15 = false → Blk W4 (w.heap.size + 1 + 1) 64 23 (fun _ => 0)) ∧ (L 15 = true → Blk W4 (w.heap.size + 1 + 1) 64 23 (sclP p pa c)) ∧ (∃ g, Blk W4 (w.heap.size + 1 + 1 + 1) 64 23 (g)) ∧ (L 16 = false → Blk W4 (w.heap.size + 1 + 1 + 1) 64 23 (fun _ => 0)) ∧ (L 16 = true → Blk W4 (w.heap.size + 1 + 1 + 1) 64 23 (sclP p pu c)) ∧ (∃ g, Blk W4 (w.heap.size + 1 + 1 + 1 + 1) 64 23 (g)) ∧ (L 17 = false → Blk W4 (w.heap.size + 1 + 1 + 1 + 1) 64 23 (fun _ => 0)) ∧ (L 17 = true → Blk W4 (w.heap.size + 1 + 1 + 1 + 1) 64 23 (sclP p pv c)) ∧ Blk W4 (k1_6) 192 149 (c3 pa pu pv) ∧ Blk W4 (k1_7) 192 149 (c3 pb px py) ∧ (L 0 = true → v 0 = (.int .i64 (p : Int))) ∧ (L 1 = true → v 1 = (.pointer (some ⟨k1_6, 0, none⟩))) ∧ (L 2 = true → v 2 = (.agg (zb 64 (pa)))) ∧ (L 3 = true → v 3 = (.int .u8 (c : Int))) ∧ (L 4 = true → v 4 = (.agg (zb 64 (sclP p pa c)))) ∧ (L 5 = true → v 5 = (.int .i64 (p : Int))) ∧ (L 6 = true → v 6 = (.pointer (some ⟨k1_6, 64, none⟩))) ∧ (L 7 = true → v 7 = (.agg (zb 64 (pu)))) ∧ (L 8 = true → v 8 = (.int .u8 (c : Int))) ∧ (L 9 = true → v 9 = (.agg (zb 64 (sclP p pu c)))) ∧ (L 10 = true → v 10 = (.int .i64 (p : Int))) ∧ (L 11 = true → v 11 = (.pointer (some ⟨k1_6, 128, none⟩))) ∧ (L 12 = true → v 12 = (.agg (zb 64 (pv)))) ∧ (L 13 = true → v 13 = (.int .u8 (c : Int))) ∧ (L 14 = true → v 14 = (.agg (zb 64 (sclP p pv c))))) ?_ ?_ ?_
      · intro v hv0
        exact ⟨hb.drew, Nat.le_refl _, ⟨_, B2.drew⟩, (fun _ => B2.drew), (fun h => by cases h), ⟨_, B3.drew⟩, (fun _ => B3.drew), (fun h => by cases h), ⟨_, B4.drew⟩, (fun _ => B4.drew), (fun h => by cases h), B5.drew, B6.drew, (fun h => by cases h), (fun h => by cases h), (fun h => by cases h), (fun h => by cases h), (fun h => by cases h), (fun h => by cases h), (fun h => by cases h), (fun h => by cases h), (fun h => by cases h), (fun h => by cases h), (fun h => by cases h), (fun h => by cases h), (fun h => by cases h), (fun h => by cases h), (fun h => by cases h)⟩
      · refine (.cons rfl ?_ (.cons rfl ?_ (.cons rfl ?_ (.cons rfl ?_ (.cons rfl ?_ (.cons rfl ?_ (.cons rfl ?_ (.cons rfl ?_ (.cons rfl ?_ (.cons rfl ?_ (.cons rfl ?_ (.cons rfl ?_ (.cons rfl ?_ (.cons rfl ?_ (.cons rfl ?_ (.cons rfl ?_ (.cons rfl ?_ (.cons rfl ?_ (.nil _)))))))))))))))))))
        all_goals intro L v W4 hd hn ⟨hB, hz, x0, q0, n0, x1, q1, n1, x2, q2, n2, s3, s4, h0, h1, h2, h3, h4, h5, h6, h7, h8, h9, h10, h11, h12, h13, h14⟩ K hK
        · go_wp2_with fail
          exact hK _ (.int .i64 (p : Int)) _ (by simp only [Act.put, pA, pB, pC ]) ⟨hB, hz, x0, q0, n0, x1, q1, n1, x2, q2, n2, s3, s4, (fun _ => rfl), h1, h2, h3, h4, h5, h6, h7, h8, h9, h10, h11, h12, h13, h14⟩
        · go_wp2_with fail
          exact hK _ (.pointer (some ⟨k1_6, 0, none⟩)) _ (by simp only [Act.put, pA, pB, pC ]) ⟨hB, hz, x0, q0, n0, x1, q1, n1, x2, q2, n2, s3, s4, h0, (fun _ => rfl), h2, h3, h4, h5, h6, h7, h8, h9, h10, h11, h12, h13, h14⟩
        · have e1 := h1 (zdq hd 1 rfl)
          refine wp_load_mid 23 _ rfl _ (0) e1 _ _ (s3.mid (by omega) (c3_0 _ _ _)) Try.underlying23 rfl (by rw [zl]; exact Try.size23) ?_
          exact hK _ _ _ rfl ⟨hB, hz, x0, q0, n0, x1, q1, n1, x2, q2, n2, s3, s4, h0, h1, (fun _ => rfl), h3, h4, h5, h6, h7, h8, h9, h10, h11, h12, h13, h14⟩
        · go_wp2_with fail
          exact hK _ (.int .u8 (c : Int)) _ (by simp only [Act.put, pA, pB, pC ]) ⟨hB, hz, x0, q0, n0, x1, q1, n1, x2, q2, n2, s3, s4, h0, h1, h2, (fun _ => rfl), h4, h5, h6, h7, h8, h9, h10, h11, h12, h13, h14⟩
        · have e0 := h0 (zdq hd 0 rfl)
          have e2 := h2 (zdq hd 2 rfl)
          have e3 := h3 (zdq hd 3 rfl)
          go_wp2_with (go_at_call 179; refine (scaled_any p pa c _ p2 p7 HIA.out hcp).mono ?_; rintro e wy ⟨rfl, hy⟩)
          exact hK _ (.agg (zb 64 (sclP p pa c))) _ (by simp only [Act.put, pA, pB, pC, e0, e2, e3]) ⟨hB.trans (hy.mono hB.size), (Nat.le_trans hz hy.size), (let ⟨g, h⟩ := x0; ⟨g, h.zw hy⟩), (fun h => (q0 h).below hy (q0 h).lt), (fun h => (n0 h).below hy (n0 h).lt), (let ⟨g, h⟩ := x1; ⟨g, h.zw hy⟩), (fun h => (q1 h).below hy (q1 h).lt), (fun h => (n1 h).below hy (n1 h).lt), (let ⟨g, h⟩ := x2; ⟨g, h.zw hy⟩), (fun h => (q2 h).below hy (q2 h).lt), (fun h => (n2 h).below hy (n2 h).lt), s3.zw hy, s4.zw hy, h0, h1, h2, h3, (fun _ => rfl), h5, h6, h7, h8, h9, h10, h11, h12, h13, h14⟩
        · go_wp2_with fail
          exact hK _ (.int .i64 (p : Int)) _ (by simp only [Act.put, pA, pB, pC ]) ⟨hB, hz, x0, q0, n0, x1, q1, n1, x2, q2, n2, s3, s4, h0, h1, h2, h3, h4, (fun _ => rfl), h6, h7, h8, h9, h10, h11, h12, h13, h14⟩
        · go_wp2_with fail
          exact hK _ (.pointer (some ⟨k1_6, 64, none⟩)) _ (by simp only [Act.put, pA, pB, pC ]) ⟨hB, hz, x0, q0, n0, x1, q1, n1, x2, q2, n2, s3, s4, h0, h1, h2, h3, h4, h5, (fun _ => rfl), h7, h8, h9, h10, h11, h12, h13, h14⟩
        · have e6 := h6 (zdq hd 6 rfl)
          refine wp_load_mid 23 _ rfl _ (64) e6 _ _ (s3.mid (by omega) (c3_1 _ _ _)) Try.underlying23 rfl (by rw [zl]; exact Try.size23) ?_
          exact hK _ _ _ rfl ⟨hB, hz, x0, q0, n0, x1, q1, n1, x2, q2, n2, s3, s4, h0, h1, h2, h3, h4, h5, h6, (fun _ => rfl), h8, h9, h10, h11, h12, h13, h14⟩
        · go_wp2_with fail
          exact hK _ (.int .u8 (c : Int)) _ (by simp only [Act.put, pA, pB, pC ]) ⟨hB, hz, x0, q0, n0, x1, q1, n1, x2, q2, n2, s3, s4, h0, h1, h2, h3, h4, h5, h6, h7, (fun _ => rfl), h9, h10, h11, h12, h13, h14⟩
        · have e5 := h5 (zdq hd 5 rfl)
          have e7 := h7 (zdq hd 7 rfl)
          have e8 := h8 (zdq hd 8 rfl)
          go_wp2_with (go_at_call 179; refine (scaled_any p pu c _ p2 p7 HIU.out hcp).mono ?_; rintro e wy ⟨rfl, hy⟩)
          exact hK _ (.agg (zb 64 (sclP p pu c))) _ (by simp only [Act.put, pA, pB, pC, e5, e7, e8]) ⟨hB.trans (hy.mono hB.size), (Nat.le_trans hz hy.size), (let ⟨g, h⟩ := x0; ⟨g, h.zw hy⟩), (fun h => (q0 h).below hy (q0 h).lt), (fun h => (n0 h).below hy (n0 h).lt), (let ⟨g, h⟩ := x1; ⟨g, h.zw hy⟩), (fun h => (q1 h).below hy (q1 h).lt), (fun h => (n1 h).below hy (n1 h).lt), (let ⟨g, h⟩ := x2; ⟨g, h.zw hy⟩), (fun h => (q2 h).below hy (q2 h).lt), (fun h => (n2 h).below hy (n2 h).lt), s3.zw hy, s4.zw hy, h0, h1, h2, h3, h4, h5, h6, h7, h8, (fun _ => rfl), h10, h11, h12, h13, h14⟩
        · go_wp2_with fail
          exact hK _ (.int .i64 (p : Int)) _ (by simp only [Act.put, pA, pB, pC ]) ⟨hB, hz, x0, q0, n0, x1, q1, n1, x2, q2, n2, s3, s4, h0, h1, h2, h3, h4, h5, h6, h7, h8, h9, (fun _ => rfl), h11, h12, h13, h14⟩
        · go_wp2_with fail
          exact hK _ (.pointer (some ⟨k1_6, 128, none⟩)) _ (by simp only [Act.put, pA, pB, pC ]) ⟨hB, hz, x0, q0, n0, x1, q1, n1, x2, q2, n2, s3, s4, h0, h1, h2, h3, h4, h5, h6, h7, h8, h9, h10, (fun _ => rfl), h12, h13, h14⟩
        · have e11 := h11 (zdq hd 11 rfl)
          refine wp_load_mid 23 _ rfl _ (128) e11 _ _ (s3.mid (by omega) (c3_2 _ _ _)) Try.underlying23 rfl (by rw [zl]; exact Try.size23) ?_
          exact hK _ _ _ rfl ⟨hB, hz, x0, q0, n0, x1, q1, n1, x2, q2, n2, s3, s4, h0, h1, h2, h3, h4, h5, h6, h7, h8, h9, h10, h11, (fun _ => rfl), h13, h14⟩
        · go_wp2_with fail
          exact hK _ (.int .u8 (c : Int)) _ (by simp only [Act.put, pA, pB, pC ]) ⟨hB, hz, x0, q0, n0, x1, q1, n1, x2, q2, n2, s3, s4, h0, h1, h2, h3, h4, h5, h6, h7, h8, h9, h10, h11, h12, (fun _ => rfl), h14⟩
        · have e10 := h10 (zdq hd 10 rfl)
          have e12 := h12 (zdq hd 12 rfl)
          have e13 := h13 (zdq hd 13 rfl)
          go_wp2_with (go_at_call 179; refine (scaled_any p pv c _ p2 p7 HIV.out hcp).mono ?_; rintro e wy ⟨rfl, hy⟩)
          exact hK _ (.agg (zb 64 (sclP p pv c))) _ (by simp only [Act.put, pA, pB, pC, e10, e12, e13]) ⟨hB.trans (hy.mono hB.size), (Nat.le_trans hz hy.size), (let ⟨g, h⟩ := x0; ⟨g, h.zw hy⟩), (fun h => (q0 h).below hy (q0 h).lt), (fun h => (n0 h).below hy (n0 h).lt), (let ⟨g, h⟩ := x1; ⟨g, h.zw hy⟩), (fun h => (q1 h).below hy (q1 h).lt), (fun h => (n1 h).below hy (n1 h).lt), (let ⟨g, h⟩ := x2; ⟨g, h.zw hy⟩), (fun h => (q2 h).below hy (q2 h).lt), (fun h => (n2 h).below hy (n2 h).lt), s3.zw hy, s4.zw hy, h0, h1, h2, h3, h4, h5, h6, h7, h8, h9, h10, h11, h12, h13, (fun _ => rfl)⟩
        · have e4 := h4 (zdq hd 4 rfl)
          obtain ⟨gz, hk⟩ := x0
          refine zsb 23 _ _ rfl _ 64 (sclP p pa c) rfl e4 23 gz hk Try.size23 ?_
          exact hK _ undef _ rfl ⟨zr hB (by omega) _, (by simpa [World.setRow] using hz), ⟨_, hk.row _⟩, (fun h => absurd h (by simp [setL])), (fun _ => hk.row _), (let ⟨g, h⟩ := x1; ⟨g, (h).rowOther (by omega)⟩), (fun h => (q1 h).rowOther (by omega)), (fun h => (n1 h).rowOther (by omega)), (let ⟨g, h⟩ := x2; ⟨g, (h).rowOther (by omega)⟩), (fun h => (q2 h).rowOther (by omega)), (fun h => (n2 h).rowOther (by omega)), (s3).rowOther (by omega), (s4).rowOther (by omega), h0, h1, h2, h3, h4, h5, h6, h7, h8, h9, h10, h11, h12, h13, h14⟩
        · have e9 := h9 (zdq hd 9 rfl)
          obtain ⟨gz, hk⟩ := x1
          refine zsb 23 _ _ rfl _ 64 (sclP p pu c) rfl e9 23 gz hk Try.size23 ?_
          exact hK _ undef _ rfl ⟨zr hB (by omega) _, (by simpa [World.setRow] using hz), (let ⟨g, h⟩ := x0; ⟨g, (h).rowOther (by omega)⟩), (fun h => (q0 h).rowOther (by omega)), (fun h => (n0 h).rowOther (by omega)), ⟨_, hk.row _⟩, (fun h => absurd h (by simp [setL])), (fun _ => hk.row _), (let ⟨g, h⟩ := x2; ⟨g, (h).rowOther (by omega)⟩), (fun h => (q2 h).rowOther (by omega)), (fun h => (n2 h).rowOther (by omega)), (s3).rowOther (by omega), (s4).rowOther (by omega), h0, h1, h2, h3, h4, h5, h6, h7, h8, h9, h10, h11, h12, h13, h14⟩
        · have e14 := h14 (zdq hd 14 rfl)
          obtain ⟨gz, hk⟩ := x2
          refine zsb 23 _ _ rfl _ 64 (sclP p pv c) rfl e14 23 gz hk Try.size23 ?_
          exact hK _ undef _ rfl ⟨zr hB (by omega) _, (by simpa [World.setRow] using hz), (let ⟨g, h⟩ := x0; ⟨g, (h).rowOther (by omega)⟩), (fun h => (q0 h).rowOther (by omega)), (fun h => (n0 h).rowOther (by omega)), (let ⟨g, h⟩ := x1; ⟨g, (h).rowOther (by omega)⟩), (fun h => (q1 h).rowOther (by omega)), (fun h => (n1 h).rowOther (by omega)), ⟨_, hk.row _⟩, (fun h => absurd h (by simp [setL])), (fun _ => hk.row _), (s3).rowOther (by omega), (s4).rowOther (by omega), h0, h1, h2, h3, h4, h5, h6, h7, h8, h9, h10, h11, h12, h13, h14⟩
      · intro L v W4 hL ⟨hB, hz, x0, q0, n0, x1, q1, n1, x2, q2, n2, s3, s4, h0, h1, h2, h3, h4, h5, h6, h7, h8, h9, h10, h11, h12, h13, h14⟩
        have r0 := n0 (hL 15 (by decide))
        have r1 := n1 (hL 16 (by decide))
        have r2 := n2 (hL 17 (by decide))
        have e0 := h0 (hL 0 (by decide))
        have e1 := h1 (hL 1 (by decide))
        have e2 := h2 (hL 2 (by decide))
        have e3 := h3 (hL 3 (by decide))
        have e4 := h4 (hL 4 (by decide))
        have e5 := h5 (hL 5 (by decide))
        have e6 := h6 (hL 6 (by decide))
        have e7 := h7 (hL 7 (by decide))
        have e8 := h8 (hL 8 (by decide))
        have e9 := h9 (hL 9 (by decide))
        have e10 := h10 (hL 10 (by decide))
        have e11 := h11 (hL 11 (by decide))
        have e12 := h12 (hL 12 (by decide))
        have e13 := h13 (hL 13 (by decide))
        have e14 := h14 (hL 14 (by decide))
        clear hL x0 q0 n0 x1 q1 n1 x2 q2 n2 h0 h1 h2 h3 h4 h5 h6 h7 h8 h9 h10 h11 h12 h13 h14
        simp only [Exit.then, e0, e1, e2, e3, e4, e5, e6, e7, e8, e9, e10, e11, e12, e13, e14]
        clear e0 e1 e2 e3 e4 e5 e6 e7 e8 e9 e10 e11 e12 e13 e14
        replace B2 := r0
        clear r0
        replace B3 := r1
        clear r1
        replace B4 := r2
        clear r2
        replace B5 := s3
        clear s3
        replace B6 := s4
        clear s4
        replace hb := hB
        clear hB
        clear hbase hz lt_B2 lt_B3 lt_B4 lt_B5 lt_B6
        go_wp2_with fail
        refine bodyPost_ret (results_bbb rfl _ _ _ 64 23 5 _ _ 64 23 5 _ _ 64 23 5 _ rfl B2 Try.underlying23 Try.size23 rfl B3 Try.underlying23 Try.size23 rfl B4 Try.underlying23 Try.size23) rfl ⟨by rw [HR.out.1, HR.out.2.1, HR.out.2.2], hb⟩
    · obtain ⟨k, rfl⟩ : ∃ j, k = j + 1 := ⟨k - 1, by omega⟩
      have heq := fun W => zeb (P := Try.prog) W 9998 23 5 64 pb (fun _ => 0) Try.underlying23 Try.underlying5 Try.size5
      rw [eqN_zero, show decide (deg pb < 0) = false by simp [hz]] at heq
      simp only [z64] at heq
      obtain ⟨hI', hdr, hdx, hdy⟩ := bzI_next hp hI hz
      have HI' := Lib.hid hI'
      have HRN := Lib.hid (hrun.trans (bzRun_go hz))
      have HDR := Lib.hid hdr
      have HL := Lib.hid (fun W => quotientAndRest_any p pa pb W hp ia ib (by omega))
      have B6o := B6
      have HIX := Lib.hid ix; have HIY := Lib.hid iy; have HIU := Lib.hid iu; have HIV := Lib.hid iv
      clear hrun hI hI' hdr hdx hdy ia ib ix iy iu iv d1 d2 d3 d4 d5
      go_upto_region 3 with (first | (refine wpList_load_mid (op := ⟨some 23, _, _, _, _, _⟩) rfl 23 (.tmp 22) rfl _ 0 rfl (bl 64 pb) _ (B6.mid (by omega) (c3_0 _ _ _)) Try.underlying23 rfl (by rw [zl]; exact Try.size23) ?_))
      clear heq hgd
      have lt_B2 := B2.lt
      have lt_B3 := B3.lt
      have lt_B4 := B4.lt
      have lt_B5 := B5.lt
      have lt_B6 := B6.lt
      go_upto_region 4 with (first | rw [← z64] | (refine wpList_load_mid (op := ⟨some 29, _, _, _, _, _⟩) rfl 23 (.tmp 28) rfl _ 0 rfl (bl 64 (pa)) _ ((B5).mid (by omega) (c3_0 _ _ _)) Try.underlying23 rfl (by rw [zl]; exact Try.size23) ?_) | (refine wpList_load_mid (op := ⟨some 31, _, _, _, _, _⟩) rfl 23 (.tmp 30) rfl _ 0 rfl (bl 64 (pb)) _ ((B6).mid (by omega) (c3_0 _ _ _)) Try.underlying23 rfl (by rw [zl]; exact Try.size23) ?_) | (go_at_call 167; refine (HL.out _).mono ?_; rintro e W3 ⟨rfl, hW3⟩; replace B2 := B2.zw hW3; replace B3 := B3.zw hW3; replace B4 := B4.zw hW3; replace B5 := B5.zw hW3; replace B6 := B6.zw hW3; replace hb := (hb).trans (hW3.mono (hb).size)) | (refine wpList_store_blk (o := ⟨none, .store 23 (.tmp 11) (.tmp 33), _, _, _, _⟩) rfl 23 (.tmp 11) (.tmp 33) rfl _ 64 (quoP p pa pb) rfl rfl 23 _ (((Blk.new W3 64 23 (fun _ => 0)).alloc (.cells (zb 64 fun _ => 0) 23))) Try.size23 ?_) | (refine wpList_store_blk (o := ⟨none, .store 23 (.tmp 12) (.tmp 34), _, _, _, _⟩) rfl 23 (.tmp 12) (.tmp 34) rfl _ 64 (resP p pa pb) rfl rfl 23 _ (((show Blk ((W3.alloc (.cells (zb 64 fun _ => 0) 23)).alloc (.cells (zb 64 fun _ => 0) 23)) (W3.heap.size + 1) 64 23 (fun _ => 0) by have := Blk.new (W3.alloc (.cells (zb 64 fun _ => 0) 23)) 64 23 (fun _ => 0); simpa using this).rowOther (by omega))) Try.size23 ?_))
      have lt_B2 := B2.lt
      have lt_B3 := B3.lt
      have lt_B4 := B4.lt
      have lt_B5 := B5.lt
      have lt_B6 := B6.lt
      have lhb := hb.size
      obtain ⟨W4, hwo, hzQ⟩ : ∃ v : World, v = ((((W3.alloc (.cells (zb 64 fun _ => 0) 23)).alloc (.cells (zb 64 fun _ => 0) 23)).setRow (W3.heap.size) (zb 64 (quoP p pa pb))).setRow (W3.heap.size + 1) (zb 64 (resP p pa pb))) ∧ Blk v (w.heap.size + 1 + 1) 64 23 (fun _ => 0) ∧ Blk v (w.heap.size + 1 + 1 + 1) 64 23 (fun _ => 0) ∧ Blk v (w.heap.size + 1 + 1 + 1 + 1) 64 23 (fun _ => 0) ∧ Blk v (k1_6) 192 149 (c3 pa pu pv) ∧ Blk v (k1_7) 192 149 (c3 pb px py) ∧ Blk v (W3.heap.size) 64 23 (quoP p pa pb) ∧ Blk v (W3.heap.size + 1) 64 23 (resP p pa pb) ∧ Below w.heap.size w v := ⟨_, rfl, ((((B2.alloc (.cells (zb 64 fun _ => 0) 23)).alloc (.cells (zb 64 fun _ => 0) 23)).rowOther (by omega)).rowOther (by omega)), ((((B3.alloc (.cells (zb 64 fun _ => 0) 23)).alloc (.cells (zb 64 fun _ => 0) 23)).rowOther (by omega)).rowOther (by omega)), ((((B4.alloc (.cells (zb 64 fun _ => 0) 23)).alloc (.cells (zb 64 fun _ => 0) 23)).rowOther (by omega)).rowOther (by omega)), ((((B5.alloc (.cells (zb 64 fun _ => 0) 23)).alloc (.cells (zb 64 fun _ => 0) 23)).rowOther (by omega)).rowOther (by omega)), ((((B6.alloc (.cells (zb 64 fun _ => 0) 23)).alloc (.cells (zb 64 fun _ => 0) 23)).rowOther (by omega)).rowOther (by omega)), ((((Blk.new W3 64 23 (fun _ => 0)).alloc (.cells (zb 64 fun _ => 0) 23)).row (quoP p pa pb)).rowOther (by omega)), (((show Blk ((W3.alloc (.cells (zb 64 fun _ => 0) 23)).alloc (.cells (zb 64 fun _ => 0) 23)) (W3.heap.size + 1) 64 23 (fun _ => 0) by have := Blk.new (W3.alloc (.cells (zb 64 fun _ => 0) 23)) 64 23 (fun _ => 0); simpa using this).rowOther (by omega)).row (resP p pa pb)), (zr (zr ((hb.alloc (by have := hb.size; simp; omega) (.cells (zb 64 fun _ => 0) 23)).alloc (by have := hb.size; simp; omega) (.cells (zb 64 fun _ => 0) 23)) (by omega) _) (by omega) _)⟩
      rw [← hwo]
      clear hwo B2 B3 B4 B5 B6 hb
      obtain ⟨B2, B3, B4, B5, B6, B7, B8, hb⟩ := hzQ
      obtain ⟨N1, hNN⟩ : ∃ n : Nat, n = W3.heap.size := ⟨_, rfl⟩
      rw [← hNN] at lt_B2 lt_B3 lt_B4 lt_B5 lt_B6 lhb B7 B8 ⊢
      clear hNN
      have zN1_2 := lt_B2
      have zN1_3 := lt_B3
      have zN1_4 := lt_B4
      have zN1_5 := lt_B5
      have zN1_6 := lt_B6
      have zN1 := lhb
      clear lt_B2 lt_B3 lt_B4 lt_B5 lt_B6 lhb
      try simp only [Act.put, pA, pB, pC]
      clear HL
      have lt_B2 : (w.heap.size + 1 + 1) < W4.heap.size := B2.lt
      have lt_B3 : (w.heap.size + 1 + 1 + 1) < W4.heap.size := B3.lt
      have lt_B4 : (w.heap.size + 1 + 1 + 1 + 1) < W4.heap.size := B4.lt
      have lt_B5 : (k1_6) < W4.heap.size := B5.lt
      have lt_B6 : (k1_7) < W4.heap.size := B6.lt
      have lt_B7 : (N1) < W4.heap.size := B7.lt
      have lt_B8 : (N1 + 1) < W4.heap.size := B8.lt
      have hbase : w.heap.size ≤ W4.heap.size := hb.size
      refine zq Try.mixed (by kernel_rfl) (by kernel_rfl) (fun v => by (simp only [frL, Act.put, pA, pB, pC, Nat.reduceAdd, Nat.zero_add]; exact rfl))
       (fun L v W5 => Below w.heap.size w W5 ∧ W4.heap.size ≤ W5.heap.size ∧ Blk W5 (w.heap.size + 1 + 1) 64 23 (fun _ => 0) ∧ Blk W5 (w.heap.size + 1 + 1 + 1) 64 23 (fun _ => 0) ∧ Blk W5 (w.heap.size + 1 + 1 + 1 + 1) 64 23 (fun _ => 0) ∧ Blk W5 (k1_6) 192 149 (c3 pa pu pv) ∧ Blk W5 (k1_7) 192 149 (c3 pb px py) ∧ Blk W5 (N1) 64 23 (quoP p pa pb) ∧ Blk W5 (N1 + 1) 64 23 (resP p pa pb) ∧ (L 0 = true → v 0 = (.int .i64 (p : Int))) ∧ (L 1 = true → v 1 = (.pointer (some ⟨k1_6, 64, none⟩))) ∧ (L 2 = true → v 2 = (.agg (zb 64 (pu)))) ∧ (L 3 = true → v 3 = (.int .i64 (p : Int))) ∧ (L 4 = true → v 4 = (.agg (zb 64 (quoP p pa pb)))) ∧ (L 5 = true → v 5 = (.pointer (some ⟨k1_7, 64, none⟩))) ∧ (L 6 = true → v 6 = (.agg (zb 64 (px)))) ∧ (L 7 = true → v 7 = (.agg (zb 64 (prd p (quoP p pa pb) px)))) ∧ (L 8 = true → v 8 = (.agg (zb 64 (subP p pu (prd p (quoP p pa pb) px))))) ∧ (L 9 = true → AF (v 9) W5 W4.heap.size 64 23) ∧ (L 10 = true → PF (v 9) W5 W4.heap.size 64 23 (subP p pu (prd p (quoP p pa pb) px)))) ?_ ?_ ?_
      · intro v hv0
        exact ⟨hb.drew, Nat.le_refl _, B2.drew, B3.drew, B4.drew, B5.drew, B6.drew, B7.drew, B8.drew, (fun h => by cases h), (fun h => by cases h), (fun h => by cases h), (fun h => by cases h), (fun h => by cases h), (fun h => by cases h), (fun h => by cases h), (fun h => by cases h), (fun h => by cases h), (fun h => by cases h), (fun h => by cases h)⟩
      · refine (.cons rfl ?_ (.cons rfl ?_ (.cons rfl ?_ (.cons rfl ?_ (.cons rfl ?_ (.cons rfl ?_ (.cons rfl ?_ (.cons rfl ?_ (.cons rfl ?_ (.cons rfl ?_ (.cons rfl ?_ (.nil _))))))))))))
        all_goals intro L v W5 hd hn ⟨hB, hz, s0, s1, s2, s3, s4, s5, s6, h0, h1, h2, h3, h4, h5, h6, h7, h8, h9, h10⟩ K hK
        · go_wp2_with fail
          exact hK _ (.int .i64 (p : Int)) _ (by simp only [Act.put, pA, pB, pC ]) ⟨hB, hz, s0, s1, s2, s3, s4, s5, s6, (fun _ => rfl), h1, h2, h3, h4, h5, h6, h7, h8, h9, h10⟩
        · go_wp2_with fail
          exact hK _ (.pointer (some ⟨k1_6, 64, none⟩)) _ (by simp only [Act.put, pA, pB, pC ]) ⟨hB, hz, s0, s1, s2, s3, s4, s5, s6, h0, (fun _ => rfl), h2, h3, h4, h5, h6, h7, h8, h9, h10⟩
        · have e1 := h1 (zdq hd 1 rfl)
          refine wp_load_mid 23 _ rfl _ (64) e1 _ _ (s3.mid (by omega) (c3_1 _ _ _)) Try.underlying23 rfl (by rw [zl]; exact Try.size23) ?_
          exact hK _ _ _ rfl ⟨hB, hz, s0, s1, s2, s3, s4, s5, s6, h0, h1, (fun _ => rfl), h3, h4, h5, h6, h7, h8, h9, h10⟩
        · go_wp2_with fail
          exact hK _ (.int .i64 (p : Int)) _ (by simp only [Act.put, pA, pB, pC ]) ⟨hB, hz, s0, s1, s2, s3, s4, s5, s6, h0, h1, h2, (fun _ => rfl), h4, h5, h6, h7, h8, h9, h10⟩
        · refine zlc s5 Try.underlying23 Try.size23 ?_
          exact hK _ _ _ rfl ⟨hB, hz, s0, s1, s2, s3, s4, s5, s6, h0, h1, h2, h3, (fun _ => rfl), h5, h6, h7, h8, h9, h10⟩
        · go_wp2_with fail
          exact hK _ (.pointer (some ⟨k1_7, 64, none⟩)) _ (by simp only [Act.put, pA, pB, pC ]) ⟨hB, hz, s0, s1, s2, s3, s4, s5, s6, h0, h1, h2, h3, h4, (fun _ => rfl), h6, h7, h8, h9, h10⟩
        · have e5 := h5 (zdq hd 5 rfl)
          refine wp_load_mid 23 _ rfl _ (64) e5 _ _ (s4.mid (by omega) (c3_1 _ _ _)) Try.underlying23 rfl (by rw [zl]; exact Try.size23) ?_
          exact hK _ _ _ rfl ⟨hB, hz, s0, s1, s2, s3, s4, s5, s6, h0, h1, h2, h3, h4, h5, (fun _ => rfl), h7, h8, h9, h10⟩
        · have e3 := h3 (zdq hd 3 rfl)
          have e4 := h4 (zdq hd 4 rfl)
          have e6 := h6 (zdq hd 6 rfl)
          go_wp2_with (go_at_call 94; refine (product_any p (quoP p pa pb) px _ p2 p7 (fun i _ => quoP_lt p0 i) HIX.out).mono ?_; rintro e wy ⟨rfl, hy⟩)
          exact hK _ (.agg (zb 64 (prd p (quoP p pa pb) px))) _ (by simp only [Act.put, pA, pB, pC, e3, e4, e6]) ⟨hB.trans (hy.mono hB.size), (Nat.le_trans hz hy.size), s0.zw hy, s1.zw hy, s2.zw hy, s3.zw hy, s4.zw hy, s5.zw hy, s6.zw hy, h0, h1, h2, h3, h4, h5, h6, (fun _ => rfl), h8, (fun h => (h9 h).below hy), (fun h => (h10 h).below hy)⟩
        · have e0 := h0 (zdq hd 0 rfl)
          have e2 := h2 (zdq hd 2 rfl)
          have e7 := h7 (zdq hd 7 rfl)
          go_wp2_with (go_at_call 158; refine (differenceS_any p pu (prd p (quoP p pa pb) px) _ p2 p7 HIU.out (fun i _ => prd_lt p0 i)).mono ?_; rintro e wy ⟨rfl, hy⟩)
          exact hK _ (.agg (zb 64 (subP p pu (prd p (quoP p pa pb) px)))) _ (by simp only [Act.put, pA, pB, pC, e0, e2, e7]) ⟨hB.trans (hy.mono hB.size), (Nat.le_trans hz hy.size), s0.zw hy, s1.zw hy, s2.zw hy, s3.zw hy, s4.zw hy, s5.zw hy, s6.zw hy, h0, h1, h2, h3, h4, h5, h6, h7, (fun _ => rfl), (fun h => (h9 h).below hy), (fun h => (h10 h).below hy)⟩
        · go_wp2_with fail
          rw [← z64]
          exact hK _ (.pointer (some ⟨W5.heap.size, 0, none⟩)) _ (by simp only [Act.put, pA, pB, pC ]) ⟨hB.alloc hB.size _, (by simp; omega), (s0).alloc _, (s1).alloc _, (s2).alloc _, (s3).alloc _, (s4).alloc _, (s5).alloc _, (s6).alloc _, h0, h1, h2, h3, h4, h5, h6, h7, h8, (fun _ => (PF.new W5 64 23 _ hz).af), (fun h => absurd rfl (hn 10 _ rfl h ⟨9, .data⟩ (by simp) rfl))⟩
        · have e8 := h8 (zdq hd 8 rfl)
          obtain ⟨gz, b, ea, hN, hk⟩ := (h9 (zdq hd 9 rfl)).out
          refine zsb 23 _ _ rfl b 64 (subP p pu (prd p (quoP p pa pb) px)) ea e8 23 gz hk Try.size23 ?_
          exact hK _ undef _ rfl ⟨zr hB (Nat.le_trans hbase hN) _, (by simpa [World.setRow] using hz), (s0).rowOther (by omega), (s1).rowOther (by omega), (s2).rowOther (by omega), (s3).rowOther (by omega), (s4).rowOther (by omega), (s5).rowOther (by omega), (s6).rowOther (by omega), h0, h1, h2, h3, h4, h5, h6, h7, h8, (fun h => (h9 h).row hk), (fun _ => by rw [show updV v 10 undef 9 = v 9 from rfl, ea]; exact PF.row hk hN _)⟩
      · intro L v W5 hL ⟨hB, hz, s0, s1, s2, s3, s4, s5, s6, h0, h1, h2, h3, h4, h5, h6, h7, h8, h9, h10⟩
        have e0 := h0 (hL 0 (by decide))
        have e1 := h1 (hL 1 (by decide))
        have e2 := h2 (hL 2 (by decide))
        have e3 := h3 (hL 3 (by decide))
        have e4 := h4 (hL 4 (by decide))
        have e5 := h5 (hL 5 (by decide))
        have e6 := h6 (hL 6 (by decide))
        have e7 := h7 (hL 7 (by decide))
        have e8 := h8 (hL 8 (by decide))
        obtain ⟨k4_9, e9, hNk4_9, hk4_9⟩ := (h10 (hL 10 (by decide))).out
        clear hL h0 h1 h2 h3 h4 h5 h6 h7 h8 h9 h10
        simp only [Exit.then, e0, e1, e2, e3, e4, e5, e6, e7, e8, e9]
        clear e0 e1 e2 e3 e4 e5 e6 e7 e8 e9
        replace B2 := s0
        clear s0
        replace B3 := s1
        clear s1
        replace B4 := s2
        clear s2
        replace B5 := s3
        clear s3
        replace B6 := s4
        clear s4
        replace B7 := s5
        clear s5
        replace B8 := s6
        clear s6
        replace hb := hB
        clear hB
        have B9 := hk4_9
        clear hk4_9
        have zk4_9_2 : w.heap.size + 1 + 1 < k4_9 := by omega
        have zk4_9_3 : w.heap.size + 1 + 1 + 1 < k4_9 := by omega
        have zk4_9_4 : w.heap.size + 1 + 1 + 1 + 1 < k4_9 := by omega
        have zk4_9_5 : k1_6 < k4_9 := by omega
        have zk4_9_6 : k1_7 < k4_9 := by omega
        have zk4_9_7 : N1 < k4_9 := by omega
        have zk4_9_8 : N1 + 1 < k4_9 := by omega
        clear hbase hz lt_B2 lt_B3 lt_B4 lt_B5 lt_B6 lt_B7 lt_B8
        go_upto_region 5 with (fail)
        have lt_B2 : (w.heap.size + 1 + 1) < W5.heap.size := B2.lt
        have lt_B3 : (w.heap.size + 1 + 1 + 1) < W5.heap.size := B3.lt
        have lt_B4 : (w.heap.size + 1 + 1 + 1 + 1) < W5.heap.size := B4.lt
        have lt_B5 : (k1_6) < W5.heap.size := B5.lt
        have lt_B6 : (k1_7) < W5.heap.size := B6.lt
        have lt_B7 : (N1) < W5.heap.size := B7.lt
        have lt_B8 : (N1 + 1) < W5.heap.size := B8.lt
        have lt_B9 : (k4_9) < W5.heap.size := B9.lt
        have hbase : w.heap.size ≤ W5.heap.size := hb.size
        refine zq Try.mixed (by kernel_rfl) (by kernel_rfl) (fun v => by (simp only [frL, Act.put, pA, pB, pC, Nat.reduceAdd, Nat.zero_add]; exact rfl))
         (fun L v W6 => Below w.heap.size w W6 ∧ W5.heap.size ≤ W6.heap.size ∧ Blk W6 (w.heap.size + 1 + 1) 64 23 (fun _ => 0) ∧ Blk W6 (w.heap.size + 1 + 1 + 1) 64 23 (fun _ => 0) ∧ Blk W6 (w.heap.size + 1 + 1 + 1 + 1) 64 23 (fun _ => 0) ∧ Blk W6 (k1_6) 192 149 (c3 pa pu pv) ∧ Blk W6 (k1_7) 192 149 (c3 pb px py) ∧ Blk W6 (N1) 64 23 (quoP p pa pb) ∧ Blk W6 (N1 + 1) 64 23 (resP p pa pb) ∧ Blk W6 (k4_9) 64 23 (subP p pu (prd p (quoP p pa pb) px)) ∧ (L 0 = true → v 0 = (.int .i64 (p : Int))) ∧ (L 1 = true → v 1 = (.pointer (some ⟨k1_6, 128, none⟩))) ∧ (L 2 = true → v 2 = (.agg (zb 64 (pv)))) ∧ (L 3 = true → v 3 = (.int .i64 (p : Int))) ∧ (L 4 = true → v 4 = (.agg (zb 64 (quoP p pa pb)))) ∧ (L 5 = true → v 5 = (.pointer (some ⟨k1_7, 128, none⟩))) ∧ (L 6 = true → v 6 = (.agg (zb 64 (py)))) ∧ (L 7 = true → v 7 = (.agg (zb 64 (prd p (quoP p pa pb) py)))) ∧ (L 8 = true → v 8 = (.agg (zb 64 (subP p pv (prd p (quoP p pa pb) py))))) ∧ (L 9 = true → AF (v 9) W6 W5.heap.size 64 23) ∧ (L 10 = true → PF (v 9) W6 W5.heap.size 64 23 (subP p pv (prd p (quoP p pa pb) py)))) ?_ ?_ ?_
        · intro v hv0
          exact ⟨hb.drew, Nat.le_refl _, B2.drew, B3.drew, B4.drew, B5.drew, B6.drew, B7.drew, B8.drew, B9.drew, (fun h => by cases h), (fun h => by cases h), (fun h => by cases h), (fun h => by cases h), (fun h => by cases h), (fun h => by cases h), (fun h => by cases h), (fun h => by cases h), (fun h => by cases h), (fun h => by cases h), (fun h => by cases h)⟩
        · refine (.cons rfl ?_ (.cons rfl ?_ (.cons rfl ?_ (.cons rfl ?_ (.cons rfl ?_ (.cons rfl ?_ (.cons rfl ?_ (.cons rfl ?_ (.cons rfl ?_ (.cons rfl ?_ (.cons rfl ?_ (.nil _))))))))))))
          all_goals intro L v W6 hd hn ⟨hB, hz, s0, s1, s2, s3, s4, s5, s6, s7, h0, h1, h2, h3, h4, h5, h6, h7, h8, h9, h10⟩ K hK
          · go_wp2_with fail
            exact hK _ (.int .i64 (p : Int)) _ (by simp only [Act.put, pA, pB, pC ]) ⟨hB, hz, s0, s1, s2, s3, s4, s5, s6, s7, (fun _ => rfl), h1, h2, h3, h4, h5, h6, h7, h8, h9, h10⟩
          · go_wp2_with fail
            exact hK _ (.pointer (some ⟨k1_6, 128, none⟩)) _ (by simp only [Act.put, pA, pB, pC ]) ⟨hB, hz, s0, s1, s2, s3, s4, s5, s6, s7, h0, (fun _ => rfl), h2, h3, h4, h5, h6, h7, h8, h9, h10⟩
          · have e1 := h1 (zdq hd 1 rfl)
            refine wp_load_mid 23 _ rfl _ (128) e1 _ _ (s3.mid (by omega) (c3_2 _ _ _)) Try.underlying23 rfl (by rw [zl]; exact Try.size23) ?_
            exact hK _ _ _ rfl ⟨hB, hz, s0, s1, s2, s3, s4, s5, s6, s7, h0, h1, (fun _ => rfl), h3, h4, h5, h6, h7, h8, h9, h10⟩
          · go_wp2_with fail
            exact hK _ (.int .i64 (p : Int)) _ (by simp only [Act.put, pA, pB, pC ]) ⟨hB, hz, s0, s1, s2, s3, s4, s5, s6, s7, h0, h1, h2, (fun _ => rfl), h4, h5, h6, h7, h8, h9, h10⟩
          · refine zlc s5 Try.underlying23 Try.size23 ?_
            exact hK _ _ _ rfl ⟨hB, hz, s0, s1, s2, s3, s4, s5, s6, s7, h0, h1, h2, h3, (fun _ => rfl), h5, h6, h7, h8, h9, h10⟩
          · go_wp2_with fail
            exact hK _ (.pointer (some ⟨k1_7, 128, none⟩)) _ (by simp only [Act.put, pA, pB, pC ]) ⟨hB, hz, s0, s1, s2, s3, s4, s5, s6, s7, h0, h1, h2, h3, h4, (fun _ => rfl), h6, h7, h8, h9, h10⟩
          · have e5 := h5 (zdq hd 5 rfl)
            refine wp_load_mid 23 _ rfl _ (128) e5 _ _ (s4.mid (by omega) (c3_2 _ _ _)) Try.underlying23 rfl (by rw [zl]; exact Try.size23) ?_
            exact hK _ _ _ rfl ⟨hB, hz, s0, s1, s2, s3, s4, s5, s6, s7, h0, h1, h2, h3, h4, h5, (fun _ => rfl), h7, h8, h9, h10⟩
          · have e3 := h3 (zdq hd 3 rfl)
            have e4 := h4 (zdq hd 4 rfl)
            have e6 := h6 (zdq hd 6 rfl)
            go_wp2_with (go_at_call 94; refine (product_any p (quoP p pa pb) py _ p2 p7 (fun i _ => quoP_lt p0 i) HIY.out).mono ?_; rintro e wy ⟨rfl, hy⟩)
            exact hK _ (.agg (zb 64 (prd p (quoP p pa pb) py))) _ (by simp only [Act.put, pA, pB, pC, e3, e4, e6]) ⟨hB.trans (hy.mono hB.size), (Nat.le_trans hz hy.size), s0.zw hy, s1.zw hy, s2.zw hy, s3.zw hy, s4.zw hy, s5.zw hy, s6.zw hy, s7.zw hy, h0, h1, h2, h3, h4, h5, h6, (fun _ => rfl), h8, (fun h => (h9 h).below hy), (fun h => (h10 h).below hy)⟩
          · have e0 := h0 (zdq hd 0 rfl)
            have e2 := h2 (zdq hd 2 rfl)
            have e7 := h7 (zdq hd 7 rfl)
            go_wp2_with (go_at_call 158; refine (differenceS_any p pv (prd p (quoP p pa pb) py) _ p2 p7 HIV.out (fun i _ => prd_lt p0 i)).mono ?_; rintro e wy ⟨rfl, hy⟩)
            exact hK _ (.agg (zb 64 (subP p pv (prd p (quoP p pa pb) py)))) _ (by simp only [Act.put, pA, pB, pC, e0, e2, e7]) ⟨hB.trans (hy.mono hB.size), (Nat.le_trans hz hy.size), s0.zw hy, s1.zw hy, s2.zw hy, s3.zw hy, s4.zw hy, s5.zw hy, s6.zw hy, s7.zw hy, h0, h1, h2, h3, h4, h5, h6, h7, (fun _ => rfl), (fun h => (h9 h).below hy), (fun h => (h10 h).below hy)⟩
          · go_wp2_with fail
            rw [← z64]
            exact hK _ (.pointer (some ⟨W6.heap.size, 0, none⟩)) _ (by simp only [Act.put, pA, pB, pC ]) ⟨hB.alloc hB.size _, (by simp; omega), (s0).alloc _, (s1).alloc _, (s2).alloc _, (s3).alloc _, (s4).alloc _, (s5).alloc _, (s6).alloc _, (s7).alloc _, h0, h1, h2, h3, h4, h5, h6, h7, h8, (fun _ => (PF.new W6 64 23 _ hz).af), (fun h => absurd rfl (hn 10 _ rfl h ⟨9, .data⟩ (by simp) rfl))⟩
          · have e8 := h8 (zdq hd 8 rfl)
            obtain ⟨gz, b, ea, hN, hk⟩ := (h9 (zdq hd 9 rfl)).out
            refine zsb 23 _ _ rfl b 64 (subP p pv (prd p (quoP p pa pb) py)) ea e8 23 gz hk Try.size23 ?_
            exact hK _ undef _ rfl ⟨zr hB (Nat.le_trans hbase hN) _, (by simpa [World.setRow] using hz), (s0).rowOther (by omega), (s1).rowOther (by omega), (s2).rowOther (by omega), (s3).rowOther (by omega), (s4).rowOther (by omega), (s5).rowOther (by omega), (s6).rowOther (by omega), (s7).rowOther (by omega), h0, h1, h2, h3, h4, h5, h6, h7, h8, (fun h => (h9 h).row hk), (fun _ => by rw [show updV v 10 undef 9 = v 9 from rfl, ea]; exact PF.row hk hN _)⟩
        · intro L v W6 hL ⟨hB, hz, s0, s1, s2, s3, s4, s5, s6, s7, h0, h1, h2, h3, h4, h5, h6, h7, h8, h9, h10⟩
          have e0 := h0 (hL 0 (by decide))
          have e1 := h1 (hL 1 (by decide))
          have e2 := h2 (hL 2 (by decide))
          have e3 := h3 (hL 3 (by decide))
          have e4 := h4 (hL 4 (by decide))
          have e5 := h5 (hL 5 (by decide))
          have e6 := h6 (hL 6 (by decide))
          have e7 := h7 (hL 7 (by decide))
          have e8 := h8 (hL 8 (by decide))
          obtain ⟨k5_9, e9, hNk5_9, hk5_9⟩ := (h10 (hL 10 (by decide))).out
          clear hL h0 h1 h2 h3 h4 h5 h6 h7 h8 h9 h10
          simp only [Exit.then, e0, e1, e2, e3, e4, e5, e6, e7, e8, e9]
          clear e0 e1 e2 e3 e4 e5 e6 e7 e8 e9
          replace B2 := s0
          clear s0
          replace B3 := s1
          clear s1
          replace B4 := s2
          clear s2
          replace B5 := s3
          clear s3
          replace B6 := s4
          clear s4
          replace B7 := s5
          clear s5
          replace B8 := s6
          clear s6
          replace B9 := s7
          clear s7
          replace hb := hB
          clear hB
          have B10 := hk5_9
          clear hk5_9
          have zk5_9_2 : w.heap.size + 1 + 1 < k5_9 := by omega
          have zk5_9_3 : w.heap.size + 1 + 1 + 1 < k5_9 := by omega
          have zk5_9_4 : w.heap.size + 1 + 1 + 1 + 1 < k5_9 := by omega
          have zk5_9_5 : k1_6 < k5_9 := by omega
          have zk5_9_6 : k1_7 < k5_9 := by omega
          have zk5_9_7 : N1 < k5_9 := by omega
          have zk5_9_8 : N1 + 1 < k5_9 := by omega
          have zk5_9_9 : k4_9 < k5_9 := by omega
          clear hbase hz lt_B2 lt_B3 lt_B4 lt_B5 lt_B6 lt_B7 lt_B8 lt_B9
          go_upto_region 6 with (fail)
          have lt_B2 : (w.heap.size + 1 + 1) < W6.heap.size := B2.lt
          have lt_B3 : (w.heap.size + 1 + 1 + 1) < W6.heap.size := B3.lt
          have lt_B4 : (w.heap.size + 1 + 1 + 1 + 1) < W6.heap.size := B4.lt
          have lt_B5 : (k1_6) < W6.heap.size := B5.lt
          have lt_B6 : (k1_7) < W6.heap.size := B6.lt
          have lt_B7 : (N1) < W6.heap.size := B7.lt
          have lt_B8 : (N1 + 1) < W6.heap.size := B8.lt
          have lt_B9 : (k4_9) < W6.heap.size := B9.lt
          have lt_B10 : (k5_9) < W6.heap.size := B10.lt
          have hbase : w.heap.size ≤ W6.heap.size := hb.size
          refine zq Try.mixed (by kernel_rfl) (by kernel_rfl) (fun v => by (simp only [frL, Act.put, pA, pB, pC, Nat.reduceAdd, Nat.zero_add]; exact rfl))
           (fun L v W7 => Below w.heap.size w W7 ∧ W6.heap.size ≤ W7.heap.size ∧ Blk W7 (w.heap.size + 1 + 1) 64 23 (fun _ => 0) ∧ Blk W7 (w.heap.size + 1 + 1 + 1) 64 23 (fun _ => 0) ∧ Blk W7 (w.heap.size + 1 + 1 + 1 + 1) 64 23 (fun _ => 0) ∧ (∃ g, Blk W7 (k1_6) 192 149 (g)) ∧ (L 5 = false → Blk W7 (k1_6) 192 149 (c3 pa pu pv)) ∧ (L 5 = true → Blk W7 (k1_6) 192 149 (c3 pb px py)) ∧ (∃ g, Blk W7 (k1_7) 192 149 (g)) ∧ (L 6 = false → Blk W7 (k1_7) 192 149 (c3 pb px py)) ∧ (L 6 = true → Blk W7 (k1_7) 192 149 (c3 (resP p pa pb) (subP p pu (prd p (quoP p pa pb) px)) (subP p pv (prd p (quoP p pa pb) py)))) ∧ Blk W7 (N1) 64 23 (quoP p pa pb) ∧ Blk W7 (N1 + 1) 64 23 (resP p pa pb) ∧ Blk W7 (k4_9) 64 23 (subP p pu (prd p (quoP p pa pb) px)) ∧ Blk W7 (k5_9) 64 23 (subP p pv (prd p (quoP p pa pb) py)) ∧ (L 0 = true → v 0 = (.agg (zb 192 (c3 pb px py)))) ∧ (L 1 = true → v 1 = (.agg (zb 64 (resP p pa pb)))) ∧ (L 2 = true → v 2 = (.agg (zb 64 (subP p pu (prd p (quoP p pa pb) px))))) ∧ (L 3 = true → v 3 = (.agg (zb 64 (subP p pv (prd p (quoP p pa pb) py))))) ∧ (L 4 = true → v 4 = (.agg (zb 192 (c3 (resP p pa pb) (subP p pu (prd p (quoP p pa pb) px)) (subP p pv (prd p (quoP p pa pb) py))))))) ?_ ?_ ?_
          · intro v hv0
            exact ⟨hb.drew, Nat.le_refl _, B2.drew, B3.drew, B4.drew, ⟨_, B5.drew⟩, (fun _ => B5.drew), (fun h => by cases h), ⟨_, B6.drew⟩, (fun _ => B6.drew), (fun h => by cases h), B7.drew, B8.drew, B9.drew, B10.drew, (fun h => by cases h), (fun h => by cases h), (fun h => by cases h), (fun h => by cases h), (fun h => by cases h)⟩
          · refine (.cons rfl ?_ (.cons rfl ?_ (.cons rfl ?_ (.cons rfl ?_ (.cons rfl ?_ (.cons rfl ?_ (.cons rfl ?_ (.nil _))))))))
            all_goals intro L v W7 hd hn ⟨hB, hz, s0, s1, s2, x3, q3, n3, x4, q4, n4, s5, s6, s7, s8, h0, h1, h2, h3, h4⟩ K hK
            · have s4 := q4 (by
               cases hL : L 6 with
               | false => rfl
               | true => exact absurd rfl (hn 6 _ rfl hL ⟨0, .phase⟩ (by simp) rfl))
              refine zlc s4 Try.underlying149 Try.size149 ?_
              exact hK _ _ _ rfl ⟨hB, hz, s0, s1, s2, x3, q3, n3, x4, q4, n4, s5, s6, s7, s8, (fun _ => rfl), h1, h2, h3, h4⟩
            · refine zlc s6 Try.underlying23 Try.size23 ?_
              exact hK _ _ _ rfl ⟨hB, hz, s0, s1, s2, x3, q3, n3, x4, q4, n4, s5, s6, s7, s8, h0, (fun _ => rfl), h2, h3, h4⟩
            · refine zlc s7 Try.underlying23 Try.size23 ?_
              exact hK _ _ _ rfl ⟨hB, hz, s0, s1, s2, x3, q3, n3, x4, q4, n4, s5, s6, s7, s8, h0, h1, (fun _ => rfl), h3, h4⟩
            · refine zlc s8 Try.underlying23 Try.size23 ?_
              exact hK _ _ _ rfl ⟨hB, hz, s0, s1, s2, x3, q3, n3, x4, q4, n4, s5, s6, s7, s8, h0, h1, h2, (fun _ => rfl), h4⟩
            · have e1 := h1 (zdq hd 1 rfl)
              have e2 := h2 (zdq hd 2 rfl)
              have e3 := h3 (zdq hd 3 rfl)
              refine wp_build_of 149 _ rfl (zb 192 (c3 (resP p pa pb) (subP p pu (prd p (quoP p pa pb) px)) (subP p pv (prd p (quoP p pa pb) py)))) (by rw [Array.toList_map]; show Try.prog.built 149 [(0, v 1), (1, v 2), (2, v 3)] = some (zb 192 (c3 (resP p pa pb) (subP p pu (prd p (quoP p pa pb) px)) (subP p pv (prd p (quoP p pa pb) py)))); rw [e1, e2, e3]; exact built_ruv _ _ _) ?_
              exact hK _ _ _ rfl ⟨hB, hz, s0, s1, s2, x3, q3, n3, x4, q4, n4, s5, s6, s7, s8, h0, h1, h2, h3, (fun _ => rfl)⟩
            · have e0 := h0 (zdq hd 0 rfl)
              obtain ⟨gz, hk⟩ := x3
              refine zsb 149 _ _ rfl _ 192 (c3 pb px py) rfl e0 149 gz hk Try.size149 ?_
              exact hK _ undef _ rfl ⟨zr hB (by omega) _, (by simpa [World.setRow] using hz), (s0).rowOther (by omega), (s1).rowOther (by omega), (s2).rowOther (by omega), ⟨_, hk.row _⟩, (fun h => absurd h (by simp [setL])), (fun _ => hk.row _), (let ⟨g, h⟩ := x4; ⟨g, (h).rowOther (by omega)⟩), (fun h => (q4 h).rowOther (by omega)), (fun h => (n4 h).rowOther (by omega)), (s5).rowOther (by omega), (s6).rowOther (by omega), (s7).rowOther (by omega), (s8).rowOther (by omega), h0, h1, h2, h3, h4⟩
            · have e4 := h4 (zdq hd 4 rfl)
              obtain ⟨gz, hk⟩ := x4
              refine zsb 149 _ _ rfl _ 192 (c3 (resP p pa pb) (subP p pu (prd p (quoP p pa pb) px)) (subP p pv (prd p (quoP p pa pb) py))) rfl e4 149 gz hk Try.size149 ?_
              exact hK _ undef _ rfl ⟨zr hB (by omega) _, (by simpa [World.setRow] using hz), (s0).rowOther (by omega), (s1).rowOther (by omega), (s2).rowOther (by omega), (let ⟨g, h⟩ := x3; ⟨g, (h).rowOther (by omega)⟩), (fun h => (q3 h).rowOther (by omega)), (fun h => (n3 h).rowOther (by omega)), ⟨_, hk.row _⟩, (fun h => absurd h (by simp [setL])), (fun _ => hk.row _), (s5).rowOther (by omega), (s6).rowOther (by omega), (s7).rowOther (by omega), (s8).rowOther (by omega), h0, h1, h2, h3, h4⟩
          · intro L v W7 hL ⟨hB, hz, s0, s1, s2, x3, q3, n3, x4, q4, n4, s5, s6, s7, s8, h0, h1, h2, h3, h4⟩
            have r3 := n3 (hL 5 (by decide))
            have r4 := n4 (hL 6 (by decide))
            have e0 := h0 (hL 0 (by decide))
            have e1 := h1 (hL 1 (by decide))
            have e2 := h2 (hL 2 (by decide))
            have e3 := h3 (hL 3 (by decide))
            have e4 := h4 (hL 4 (by decide))
            clear hL x3 q3 n3 x4 q4 n4 h0 h1 h2 h3 h4
            simp only [Exit.then, e0, e1, e2, e3, e4]
            clear e0 e1 e2 e3 e4
            replace B2 := s0
            clear s0
            replace B3 := s1
            clear s1
            replace B4 := s2
            clear s2
            replace B5 := r3
            clear r3
            replace B6 := r4
            clear r4
            replace B7 := s5
            clear s5
            replace B8 := s6
            clear s6
            replace B9 := s7
            clear s7
            replace B10 := s8
            clear s8
            replace hb := hB
            clear hB
            clear hbase hz lt_B2 lt_B3 lt_B4 lt_B5 lt_B6 lt_B7 lt_B8 lt_B9 lt_B10
            go_wp2_with fail
            go_roundw
            case rel => exact ⟨k, pb, (resP p pa pb), px, (subP p pu (prd p (quoP p pa pb) px)), py, (subP p pv (prd p (quoP p pa pb) py)), HRN.out, by have := HDR.out; omega, HI'.out, hb, B5, B6, B2, B3, B4⟩
            case measure =>
             rw [degAt_blk B6 (by omega), degAt_blk B6o (by omega), deg_congr (f := c3 (resP p pa pb) (subP p pu (prd p (quoP p pa pb) px)) (subP p pv (prd p (quoP p pa pb) py))) (g := (resP p pa pb)) (fun k hk => by have := c3_0 (resP p pa pb) (subP p pu (prd p (quoP p pa pb) px)) (subP p pv (prd p (quoP p pa pb) py)) k hk; rwa [Nat.zero_add] at this), deg_congr (f := c3 pb px py) (g := pb) (fun k hk => by have := c3_0 pb px py k hk; rwa [Nat.zero_add] at this)]
             have := HDR.out
             omega
end Go.Proofs.Ytoncepgcfifgbaa
end
section
namespace Go.Proofs.Ytoncepgcfifgbaa
open Go.RowKit
set_option linter.unusedVariables false
set_option linter.unusedSimpArgs false
attribute [local irreducible] deg invN dS qS stp stpr quoP resP oneP bzD bzU bzW
set_option maxRecDepth 100000 in
set_option maxHeartbeats 800000 in
theorem l01Gcd_any (p : Nat) (f g : Nat → Nat) (w : World) (hpr : p = 2 ∨ p = 3 ∨ p = 5 ∨ p = 7) (lf : ∀ k, k < 64 → f k < p) (lg : ∀ k, k < 64 → g k < p) (hz : ¬ (deg f < 0 ∧ deg g < 0)) :
 Calls Try.prog 152 #[.int .i64 (p : Int), .agg (zb 64 f), .agg (zb 64 g)] w fun e w' => e = .returned (.agg (zb 64 (bzD p f g))) ∧ Below w.heap.size w w' := by
 go_enter Try.func152, Try.ntmps152
 go_upto_region 1 with (fail)
 rw [← z64]
 obtain ⟨W1, hwo⟩ : ∃ v : World, v = (((w.alloc (.cells (zb 64 (f)) 23)).alloc (.cells (zb 64 (g)) 23)).alloc (.cells (zb 64 fun _ => 0) 23)) := ⟨_, rfl⟩
 have B0 : Blk W1 (w.heap.size) 64 23 (f) := by subst hwo; have := (((Blk.new w 64 23 (f)).alloc (.cells (zb 64 (g)) 23)).alloc (.cells (zb 64 fun _ => 0) 23)); simpa using this
 have B1 : Blk W1 (w.heap.size + 1) 64 23 (g) := by subst hwo; have := ((Blk.new (w.alloc (.cells (zb 64 (f)) 23)) 64 23 (g)).alloc (.cells (zb 64 fun _ => 0) 23)); simpa using this
 have B2 : Blk W1 (w.heap.size + 1 + 1) 64 23 (fun _ => 0) := by subst hwo; have := (Blk.new ((w.alloc (.cells (zb 64 (f)) 23)).alloc (.cells (zb 64 (g)) 23)) 64 23 (fun _ => 0)); simpa using this
 have hb : Below w.heap.size w W1 := by subst hwo; exact ((((Below.refl _ _).alloc (Nat.le_refl _) _).alloc (by simp) _).alloc (by simp; omega) _)
 rw [← hwo]
 clear hwo
 by_cases h1 : deg f < 0
 · have h2 : ¬ deg g < 0 := fun h => hz ⟨h1, h⟩
   go_upto_region 3 with (first | (refine zla (.tmp 4) B0 Try.underlying23 Try.size23 ?_) | (go_at_call 88; refine (l01Deg_any _ _).mono ?_; rintro e W2 ⟨rfl, hW2⟩; replace B0 := B0.zw hW2; replace B1 := B1.zw hW2; replace B2 := B2.zw hW2; replace hb := (hb).trans (hW2.mono (hb).size)) | (refine zlg rfl 23 (.tmp 5) rfl _ rfl 64 23 _ (B1) _ Try.underlying23 rfl Try.size23 ?_) | (go_at_call 88; refine (l01Deg_any _ _).mono ?_; rintro e W3 ⟨rfl, hW3⟩; replace B0 := B0.zw hW3; replace B1 := B1.zw hW3; replace B2 := B2.zw hW3; replace hb := (hb).trans (hW3.mono (hb).size)))
   have lt_B0 := B0.lt
   have lt_B1 := B1.lt
   have lt_B2 := B2.lt
   go_upto_region 4 with (first | rw [← z64] | (refine zla (.tmp 4) B0 Try.underlying23 Try.size23 ?_) | (refine zla (.tmp 5) B1 Try.underlying23 Try.size23 ?_) | (go_at_call 171; refine (l01Bezout_any p f g _ hpr lf lg (by omega)).mono ?_; rintro e W4 ⟨rfl, hW4⟩; replace B0 := B0.zw hW4; replace B1 := B1.zw hW4; replace B2 := B2.zw hW4; replace hb := (hb).trans (hW4.mono (hb).size)) | (refine wpList_store_blk rfl 23 (.tmp 7) (.tmp 24) rfl _ 64 (bzD p f g) rfl rfl 23 _ ((((Blk.new W4 64 23 (fun _ => 0)).alloc (.cells (zb 64 fun _ => 0) 23)).alloc (.cells (zb 64 fun _ => 0) 23))) Try.size23 ?_; try simp only [Act.put]) | (refine wpList_store_blk rfl 23 (.tmp 8) (.tmp 25) rfl _ 64 (bzU p f g) rfl rfl 23 _ ((((show Blk ((W4.alloc (.cells (zb 64 fun _ => 0) 23)).alloc (.cells (zb 64 fun _ => 0) 23)) (W4.heap.size + 1) 64 23 (fun _ => 0) by have := Blk.new (W4.alloc (.cells (zb 64 fun _ => 0) 23)) 64 23 (fun _ => 0); simpa using this).alloc (.cells (zb 64 fun _ => 0) 23)).rowOther (by omega))) Try.size23 ?_; try simp only [Act.put]) | (refine wpList_store_blk rfl 23 (.tmp 9) (.tmp 26) rfl _ 64 (bzW p f g) rfl rfl 23 _ ((((show Blk (((W4.alloc (.cells (zb 64 fun _ => 0) 23)).alloc (.cells (zb 64 fun _ => 0) 23)).alloc (.cells (zb 64 fun _ => 0) 23)) (W4.heap.size + 1 + 1) 64 23 (fun _ => 0) by have := Blk.new ((W4.alloc (.cells (zb 64 fun _ => 0) 23)).alloc (.cells (zb 64 fun _ => 0) 23)) 64 23 (fun _ => 0); simpa using this).rowOther (by omega)).rowOther (by omega))) Try.size23 ?_; try simp only [Act.put]))
   have lt_B0 := B0.lt
   have lt_B1 := B1.lt
   have lt_B2 := B2.lt
   have lhb := hb.size
   obtain ⟨W5, hwo, hzQ⟩ : ∃ v : World, v = ((((((W4.alloc (.cells (zb 64 fun _ => 0) 23)).alloc (.cells (zb 64 fun _ => 0) 23)).alloc (.cells (zb 64 fun _ => 0) 23)).setRow (W4.heap.size) (zb 64 (bzD p f g))).setRow (W4.heap.size + 1) (zb 64 (bzU p f g))).setRow (W4.heap.size + 1 + 1) (zb 64 (bzW p f g))) ∧ Blk v (w.heap.size) 64 23 (f) ∧ Blk v (w.heap.size + 1) 64 23 (g) ∧ Blk v (w.heap.size + 1 + 1) 64 23 (fun _ => 0) ∧ Blk v (W4.heap.size) 64 23 (bzD p f g) ∧ Blk v (W4.heap.size + 1) 64 23 (bzU p f g) ∧ Blk v (W4.heap.size + 1 + 1) 64 23 (bzW p f g) ∧ Below w.heap.size w v := ⟨_, rfl, ((((((B0.alloc (.cells (zb 64 fun _ => 0) 23)).alloc (.cells (zb 64 fun _ => 0) 23)).alloc (.cells (zb 64 fun _ => 0) 23)).rowOther (by omega)).rowOther (by omega)).rowOther (by omega)), ((((((B1.alloc (.cells (zb 64 fun _ => 0) 23)).alloc (.cells (zb 64 fun _ => 0) 23)).alloc (.cells (zb 64 fun _ => 0) 23)).rowOther (by omega)).rowOther (by omega)).rowOther (by omega)), ((((((B2.alloc (.cells (zb 64 fun _ => 0) 23)).alloc (.cells (zb 64 fun _ => 0) 23)).alloc (.cells (zb 64 fun _ => 0) 23)).rowOther (by omega)).rowOther (by omega)).rowOther (by omega)), ((((((Blk.new W4 64 23 (fun _ => 0)).alloc (.cells (zb 64 fun _ => 0) 23)).alloc (.cells (zb 64 fun _ => 0) 23)).row (bzD p f g)).rowOther (by omega)).rowOther (by omega)), (((((show Blk ((W4.alloc (.cells (zb 64 fun _ => 0) 23)).alloc (.cells (zb 64 fun _ => 0) 23)) (W4.heap.size + 1) 64 23 (fun _ => 0) by have := Blk.new (W4.alloc (.cells (zb 64 fun _ => 0) 23)) 64 23 (fun _ => 0); simpa using this).alloc (.cells (zb 64 fun _ => 0) 23)).rowOther (by omega)).row (bzU p f g)).rowOther (by omega)), ((((show Blk (((W4.alloc (.cells (zb 64 fun _ => 0) 23)).alloc (.cells (zb 64 fun _ => 0) 23)).alloc (.cells (zb 64 fun _ => 0) 23)) (W4.heap.size + 1 + 1) 64 23 (fun _ => 0) by have := Blk.new ((W4.alloc (.cells (zb 64 fun _ => 0) 23)).alloc (.cells (zb 64 fun _ => 0) 23)) 64 23 (fun _ => 0); simpa using this).rowOther (by omega)).rowOther (by omega)).row (bzW p f g)), (zr (zr (zr (((hb.alloc (by have := hb.size; simp; omega) (.cells (zb 64 fun _ => 0) 23)).alloc (by have := hb.size; simp; omega) (.cells (zb 64 fun _ => 0) 23)).alloc (by have := hb.size; simp; omega) (.cells (zb 64 fun _ => 0) 23)) (by omega) _) (by omega) _) (by omega) _)⟩
   rw [← hwo]
   clear hwo B0 B1 B2 hb
   obtain ⟨B0, B1, B2, B3, B4, B5, hb⟩ := hzQ
   obtain ⟨N1, hNN⟩ : ∃ n : Nat, n = W4.heap.size := ⟨_, rfl⟩
   rw [← hNN] at lt_B0 lt_B1 lt_B2 lhb B3 B4 B5 ⊢
   clear hNN
   have zN1_0 := lt_B0
   have zN1_1 := lt_B1
   have zN1_2 := lt_B2
   have zN1 := lhb
   clear lt_B0 lt_B1 lt_B2 lhb
   try simp only [Act.put, pA, pB, pC]
   have lt_B0 := B0.lt
   have lt_B1 := B1.lt
   have lt_B2 := B2.lt
   have lt_B3 := B3.lt
   have lt_B4 := B4.lt
   have lt_B5 := B5.lt
   go_wp2_with (first | rw [← z64] | (refine zla (.tmp 7) B3 Try.underlying23 Try.size23 ?_) | (refine zsr (.tmp 6) (.tmp 27) (bzD p f g) B2 Try.size23 ?_; try simp only [Act.put]))
   obtain ⟨W6, hwo, hzQ⟩ : ∃ v : World, v = (W5.setRow (w.heap.size + 1 + 1) (zb 64 (bzD p f g))) ∧ Blk v (w.heap.size) 64 23 (f) ∧ Blk v (w.heap.size + 1) 64 23 (g) ∧ Blk v (w.heap.size + 1 + 1) 64 23 (bzD p f g) ∧ Blk v (N1) 64 23 (bzD p f g) ∧ Blk v (N1 + 1) 64 23 (bzU p f g) ∧ Blk v (N1 + 1 + 1) 64 23 (bzW p f g) ∧ Below w.heap.size w v := ⟨_, rfl, (B0.rowOther (by omega)), (B1.rowOther (by omega)), (B2.row (bzD p f g)), (B3.rowOther (by omega)), (B4.rowOther (by omega)), (B5.rowOther (by omega)), (zr hb (by omega) _)⟩
   rw [← hwo]
   clear hwo B0 B1 B2 B3 B4 B5 hb
   obtain ⟨B0, B1, B2, B3, B4, B5, hb⟩ := hzQ
   try simp only [Act.put, pA, pB, pC]
   refine bodyPost_ret (zrb rfl _ _ _ 64 23 5 _ rfl B2 Try.underlying23 Try.size23) rfl ⟨rfl, hb⟩
 · have h2 := h1
   go_upto_region 3 with (first | (refine zla (.tmp 4) B0 Try.underlying23 Try.size23 ?_) | (go_at_call 88; refine (l01Deg_any _ _).mono ?_; rintro e W2 ⟨rfl, hW2⟩; replace B0 := B0.zw hW2; replace B1 := B1.zw hW2; replace B2 := B2.zw hW2; replace hb := (hb).trans (hW2.mono (hb).size)))
   have lt_B0 := B0.lt
   have lt_B1 := B1.lt
   have lt_B2 := B2.lt
   go_upto_region 4 with (first | rw [← z64] | (refine zla (.tmp 4) B0 Try.underlying23 Try.size23 ?_) | (refine zla (.tmp 5) B1 Try.underlying23 Try.size23 ?_) | (go_at_call 171; refine (l01Bezout_any p f g _ hpr lf lg (by omega)).mono ?_; rintro e W3 ⟨rfl, hW3⟩; replace B0 := B0.zw hW3; replace B1 := B1.zw hW3; replace B2 := B2.zw hW3; replace hb := (hb).trans (hW3.mono (hb).size)) | (refine wpList_store_blk rfl 23 (.tmp 7) (.tmp 24) rfl _ 64 (bzD p f g) rfl rfl 23 _ ((((Blk.new W3 64 23 (fun _ => 0)).alloc (.cells (zb 64 fun _ => 0) 23)).alloc (.cells (zb 64 fun _ => 0) 23))) Try.size23 ?_; try simp only [Act.put]) | (refine wpList_store_blk rfl 23 (.tmp 8) (.tmp 25) rfl _ 64 (bzU p f g) rfl rfl 23 _ ((((show Blk ((W3.alloc (.cells (zb 64 fun _ => 0) 23)).alloc (.cells (zb 64 fun _ => 0) 23)) (W3.heap.size + 1) 64 23 (fun _ => 0) by have := Blk.new (W3.alloc (.cells (zb 64 fun _ => 0) 23)) 64 23 (fun _ => 0); simpa using this).alloc (.cells (zb 64 fun _ => 0) 23)).rowOther (by omega))) Try.size23 ?_; try simp only [Act.put]) | (refine wpList_store_blk rfl 23 (.tmp 9) (.tmp 26) rfl _ 64 (bzW p f g) rfl rfl 23 _ ((((show Blk (((W3.alloc (.cells (zb 64 fun _ => 0) 23)).alloc (.cells (zb 64 fun _ => 0) 23)).alloc (.cells (zb 64 fun _ => 0) 23)) (W3.heap.size + 1 + 1) 64 23 (fun _ => 0) by have := Blk.new ((W3.alloc (.cells (zb 64 fun _ => 0) 23)).alloc (.cells (zb 64 fun _ => 0) 23)) 64 23 (fun _ => 0); simpa using this).rowOther (by omega)).rowOther (by omega))) Try.size23 ?_; try simp only [Act.put]))
   have lt_B0 := B0.lt
   have lt_B1 := B1.lt
   have lt_B2 := B2.lt
   have lhb := hb.size
   obtain ⟨W4, hwo, hzQ⟩ : ∃ v : World, v = ((((((W3.alloc (.cells (zb 64 fun _ => 0) 23)).alloc (.cells (zb 64 fun _ => 0) 23)).alloc (.cells (zb 64 fun _ => 0) 23)).setRow (W3.heap.size) (zb 64 (bzD p f g))).setRow (W3.heap.size + 1) (zb 64 (bzU p f g))).setRow (W3.heap.size + 1 + 1) (zb 64 (bzW p f g))) ∧ Blk v (w.heap.size) 64 23 (f) ∧ Blk v (w.heap.size + 1) 64 23 (g) ∧ Blk v (w.heap.size + 1 + 1) 64 23 (fun _ => 0) ∧ Blk v (W3.heap.size) 64 23 (bzD p f g) ∧ Blk v (W3.heap.size + 1) 64 23 (bzU p f g) ∧ Blk v (W3.heap.size + 1 + 1) 64 23 (bzW p f g) ∧ Below w.heap.size w v := ⟨_, rfl, ((((((B0.alloc (.cells (zb 64 fun _ => 0) 23)).alloc (.cells (zb 64 fun _ => 0) 23)).alloc (.cells (zb 64 fun _ => 0) 23)).rowOther (by omega)).rowOther (by omega)).rowOther (by omega)), ((((((B1.alloc (.cells (zb 64 fun _ => 0) 23)).alloc (.cells (zb 64 fun _ => 0) 23)).alloc (.cells (zb 64 fun _ => 0) 23)).rowOther (by omega)).rowOther (by omega)).rowOther (by omega)), ((((((B2.alloc (.cells (zb 64 fun _ => 0) 23)).alloc (.cells (zb 64 fun _ => 0) 23)).alloc (.cells (zb 64 fun _ => 0) 23)).rowOther (by omega)).rowOther (by omega)).rowOther (by omega)), ((((((Blk.new W3 64 23 (fun _ => 0)).alloc (.cells (zb 64 fun _ => 0) 23)).alloc (.cells (zb 64 fun _ => 0) 23)).row (bzD p f g)).rowOther (by omega)).rowOther (by omega)), (((((show Blk ((W3.alloc (.cells (zb 64 fun _ => 0) 23)).alloc (.cells (zb 64 fun _ => 0) 23)) (W3.heap.size + 1) 64 23 (fun _ => 0) by have := Blk.new (W3.alloc (.cells (zb 64 fun _ => 0) 23)) 64 23 (fun _ => 0); simpa using this).alloc (.cells (zb 64 fun _ => 0) 23)).rowOther (by omega)).row (bzU p f g)).rowOther (by omega)), ((((show Blk (((W3.alloc (.cells (zb 64 fun _ => 0) 23)).alloc (.cells (zb 64 fun _ => 0) 23)).alloc (.cells (zb 64 fun _ => 0) 23)) (W3.heap.size + 1 + 1) 64 23 (fun _ => 0) by have := Blk.new ((W3.alloc (.cells (zb 64 fun _ => 0) 23)).alloc (.cells (zb 64 fun _ => 0) 23)) 64 23 (fun _ => 0); simpa using this).rowOther (by omega)).rowOther (by omega)).row (bzW p f g)), (zr (zr (zr (((hb.alloc (by have := hb.size; simp; omega) (.cells (zb 64 fun _ => 0) 23)).alloc (by have := hb.size; simp; omega) (.cells (zb 64 fun _ => 0) 23)).alloc (by have := hb.size; simp; omega) (.cells (zb 64 fun _ => 0) 23)) (by omega) _) (by omega) _) (by omega) _)⟩
   rw [← hwo]
   clear hwo B0 B1 B2 hb
   obtain ⟨B0, B1, B2, B3, B4, B5, hb⟩ := hzQ
   obtain ⟨N1, hNN⟩ : ∃ n : Nat, n = W3.heap.size := ⟨_, rfl⟩
   rw [← hNN] at lt_B0 lt_B1 lt_B2 lhb B3 B4 B5 ⊢
   clear hNN
   have zN1_0 := lt_B0
   have zN1_1 := lt_B1
   have zN1_2 := lt_B2
   have zN1 := lhb
   clear lt_B0 lt_B1 lt_B2 lhb
   try simp only [Act.put, pA, pB, pC]
   have lt_B0 := B0.lt
   have lt_B1 := B1.lt
   have lt_B2 := B2.lt
   have lt_B3 := B3.lt
   have lt_B4 := B4.lt
   have lt_B5 := B5.lt
   go_wp2_with (first | rw [← z64] | (refine zla (.tmp 7) B3 Try.underlying23 Try.size23 ?_) | (refine zsr (.tmp 6) (.tmp 27) (bzD p f g) B2 Try.size23 ?_; try simp only [Act.put]))
   obtain ⟨W5, hwo, hzQ⟩ : ∃ v : World, v = (W4.setRow (w.heap.size + 1 + 1) (zb 64 (bzD p f g))) ∧ Blk v (w.heap.size) 64 23 (f) ∧ Blk v (w.heap.size + 1) 64 23 (g) ∧ Blk v (w.heap.size + 1 + 1) 64 23 (bzD p f g) ∧ Blk v (N1) 64 23 (bzD p f g) ∧ Blk v (N1 + 1) 64 23 (bzU p f g) ∧ Blk v (N1 + 1 + 1) 64 23 (bzW p f g) ∧ Below w.heap.size w v := ⟨_, rfl, (B0.rowOther (by omega)), (B1.rowOther (by omega)), (B2.row (bzD p f g)), (B3.rowOther (by omega)), (B4.rowOther (by omega)), (B5.rowOther (by omega)), (zr hb (by omega) _)⟩
   rw [← hwo]
   clear hwo B0 B1 B2 B3 B4 B5 hb
   obtain ⟨B0, B1, B2, B3, B4, B5, hb⟩ := hzQ
   try simp only [Act.put, pA, pB, pC]
   refine bodyPost_ret (zrb rfl _ _ _ 64 23 5 _ rfl B2 Try.underlying23 Try.size23) rfl ⟨rfl, hb⟩
end Go.Proofs.Ytoncepgcfifgbaa
end
section
namespace Go.Proofs.Ytoncepgcfifgbaa
open Go.RowKit
set_option linter.unusedVariables false
set_option linter.unusedSimpArgs false
attribute [local irreducible] deg invN dS qS stp stpr quoP resP oneP bzD bzU bzW
def monB (f : Nat → Nat) : Bool := decide (0 ≤ deg f ∧ f (deg f).toNat = 1)
theorem monB_no {f : Nat → Nat} (h : ¬ 0 ≤ deg f) : monB f = false := by unfold monB; simp; intro h2; omega
theorem monB_at {f : Nat → Nat} {m : Nat} (hm : deg f = (m : Int)) : monB f = ((f m : Int) == 1) := by
 unfold monB
 rw [hm, Int.toNat_natCast, Bool.eq_iff_iff]
 simp
 omega
set_option maxRecDepth 100000 in
theorem l01Monic_any (f : Nat → Nat) (hf : byte f) (w : World) : Calls Try.prog 104 #[.agg (zb 64 f)] w fun e w' => e = .returned (.bool (monB f)) ∧ Below w.heap.size w w' := by
 obtain ⟨fb1, fb2⟩ := zdb f
 go_enter Try.func104, Try.ntmps104
 go_upto_region 1 with (fail)
 obtain ⟨W1, hwo⟩ : ∃ v : World, v = (w.alloc (.cells (zb 64 (f)) 23)) := ⟨_, rfl⟩
 have B0 : Blk W1 (w.heap.size) 64 23 (f) := by subst hwo; have := (Blk.new w 64 23 (f)); simpa using this
 have hb : Below w.heap.size w W1 := by subst hwo; exact ((Below.refl _ _).alloc (Nat.le_refl _) _)
 rw [← hwo]
 clear hwo
 go_upto_region 2 with (first | (refine zla (.tmp 1) B0 Try.underlying23 Try.size23 ?_) | (go_at_call 88; refine (l01Deg_any f _).mono ?_; rintro e W2 ⟨rfl, hW2⟩; replace B0 := B0.zw hW2; replace hb := (hb).trans (hW2.mono (hb).size)))
 by_cases h1 : 0 ≤ deg f
 · obtain ⟨m, hm⟩ : ∃ m : Nat, deg f = (m : Int) := ⟨(deg f).toNat, by omega⟩
   have HV := Lib.hid (monB_at hm)
   rw [hm]
   have cc := B0.cell (i := m) (by omega)
   have hfm := hf m
   have g3 : m < 64 := by omega
   clear hm h1
   go_wp2_with fail
   go_ret
   exact ⟨ret_bool HV.out.symm, hb⟩
 · have HV := Lib.hid (monB_no h1)
   have h3 : deg f < 0 := by omega
   clear h1
   go_wp2_with fail
   go_ret
   exact ⟨ret_bool HV.out.symm, hb⟩
end Go.Proofs.Ytoncepgcfifgbaa
end
section
namespace Go.Proofs.Ytoncepgcfifgbaa
open Go.RowKit
set_option linter.unusedVariables false
set_option linter.unusedSimpArgs false
attribute [local irreducible] deg invN dS qS stp stpr quoP resP oneP bzD bzU bzW
set_option maxRecDepth 100000 in
set_option maxHeartbeats 400000 in
theorem l01Mod_any (p : Nat) (f m : Nat → Nat) (w : World) (hpr : p = 2 ∨ p = 3 ∨ p = 5 ∨ p = 7) (lf : ∀ k, k < 64 → f k < p) (lm : ∀ k, k < 64 → m k < p) (h0 : 0 ≤ deg m) :
 Calls Try.prog 146 #[.int .i64 (p : Int), .agg (zb 64 f), .agg (zb 64 m)] w fun e w' => e = .returned (.agg (zb 64 (resP p f m))) ∧ Below w.heap.size w w' := by
 go_enter Try.func146, Try.ntmps146
 go_upto_region 1 with (fail)
 rw [← z64]
 obtain ⟨W1, hwo⟩ : ∃ v : World, v = (((w.alloc (.cells (zb 64 (f)) 23)).alloc (.cells (zb 64 (m)) 23)).alloc (.cells (zb 64 fun _ => 0) 23)) := ⟨_, rfl⟩
 have B0 : Blk W1 (w.heap.size) 64 23 (f) := by subst hwo; have := (((Blk.new w 64 23 (f)).alloc (.cells (zb 64 (m)) 23)).alloc (.cells (zb 64 fun _ => 0) 23)); simpa using this
 have B1 : Blk W1 (w.heap.size + 1) 64 23 (m) := by subst hwo; have := ((Blk.new (w.alloc (.cells (zb 64 (f)) 23)) 64 23 (m)).alloc (.cells (zb 64 fun _ => 0) 23)); simpa using this
 have B2 : Blk W1 (w.heap.size + 1 + 1) 64 23 (fun _ => 0) := by subst hwo; have := (Blk.new ((w.alloc (.cells (zb 64 (f)) 23)).alloc (.cells (zb 64 (m)) 23)) 64 23 (fun _ => 0)); simpa using this
 have hb : Below w.heap.size w W1 := by subst hwo; exact ((((Below.refl _ _).alloc (Nat.le_refl _) _).alloc (by simp) _).alloc (by simp; omega) _)
 rw [← hwo]
 clear hwo
 have lt_B0 := B0.lt
 have lt_B1 := B1.lt
 have lt_B2 := B2.lt
 go_upto_region 2 with (first | rw [← z64] | (refine zla (.tmp 4) B0 Try.underlying23 Try.size23 ?_) | (refine zla (.tmp 5) B1 Try.underlying23 Try.size23 ?_) | (go_at_call 155; refine (l01Divide_any p f m _ hpr lf lm h0).mono ?_; rintro e W2 ⟨rfl, hW2⟩; replace B0 := B0.zw hW2; replace B1 := B1.zw hW2; replace B2 := B2.zw hW2; replace hb := (hb).trans (hW2.mono (hb).size)) | (refine wpList_store_blk rfl 23 (.tmp 7) (.tmp 14) rfl _ 64 (quoP p f m) rfl rfl 23 _ (((Blk.new W2 64 23 (fun _ => 0)).alloc (.cells (zb 64 fun _ => 0) 23))) Try.size23 ?_; try simp only [Act.put]) | (refine wpList_store_blk rfl 23 (.tmp 8) (.tmp 15) rfl _ 64 (resP p f m) rfl rfl 23 _ (((show Blk ((W2.alloc (.cells (zb 64 fun _ => 0) 23)).alloc (.cells (zb 64 fun _ => 0) 23)) (W2.heap.size + 1) 64 23 (fun _ => 0) by have := Blk.new (W2.alloc (.cells (zb 64 fun _ => 0) 23)) 64 23 (fun _ => 0); simpa using this).rowOther (by omega))) Try.size23 ?_; try simp only [Act.put]))
 have lt_B0 := B0.lt
 have lt_B1 := B1.lt
 have lt_B2 := B2.lt
 have lhb := hb.size
 obtain ⟨W3, hwo, hzQ⟩ : ∃ v : World, v = ((((W2.alloc (.cells (zb 64 fun _ => 0) 23)).alloc (.cells (zb 64 fun _ => 0) 23)).setRow (W2.heap.size) (zb 64 (quoP p f m))).setRow (W2.heap.size + 1) (zb 64 (resP p f m))) ∧ Blk v (w.heap.size) 64 23 (f) ∧ Blk v (w.heap.size + 1) 64 23 (m) ∧ Blk v (w.heap.size + 1 + 1) 64 23 (fun _ => 0) ∧ Blk v (W2.heap.size) 64 23 (quoP p f m) ∧ Blk v (W2.heap.size + 1) 64 23 (resP p f m) ∧ Below w.heap.size w v := ⟨_, rfl, ((((B0.alloc (.cells (zb 64 fun _ => 0) 23)).alloc (.cells (zb 64 fun _ => 0) 23)).rowOther (by omega)).rowOther (by omega)), ((((B1.alloc (.cells (zb 64 fun _ => 0) 23)).alloc (.cells (zb 64 fun _ => 0) 23)).rowOther (by omega)).rowOther (by omega)), ((((B2.alloc (.cells (zb 64 fun _ => 0) 23)).alloc (.cells (zb 64 fun _ => 0) 23)).rowOther (by omega)).rowOther (by omega)), ((((Blk.new W2 64 23 (fun _ => 0)).alloc (.cells (zb 64 fun _ => 0) 23)).row (quoP p f m)).rowOther (by omega)), (((show Blk ((W2.alloc (.cells (zb 64 fun _ => 0) 23)).alloc (.cells (zb 64 fun _ => 0) 23)) (W2.heap.size + 1) 64 23 (fun _ => 0) by have := Blk.new (W2.alloc (.cells (zb 64 fun _ => 0) 23)) 64 23 (fun _ => 0); simpa using this).rowOther (by omega)).row (resP p f m)), (zr (zr ((hb.alloc (by have := hb.size; simp; omega) (.cells (zb 64 fun _ => 0) 23)).alloc (by have := hb.size; simp; omega) (.cells (zb 64 fun _ => 0) 23)) (by omega) _) (by omega) _)⟩
 rw [← hwo]
 clear hwo B0 B1 B2 hb
 obtain ⟨B0, B1, B2, B3, B4, hb⟩ := hzQ
 obtain ⟨N1, hNN⟩ : ∃ n : Nat, n = W2.heap.size := ⟨_, rfl⟩
 rw [← hNN] at lt_B0 lt_B1 lt_B2 lhb B3 B4 ⊢
 clear hNN
 have zN1_0 := lt_B0
 have zN1_1 := lt_B1
 have zN1_2 := lt_B2
 have zN1 := lhb
 clear lt_B0 lt_B1 lt_B2 lhb
 try simp only [Act.put, pA, pB, pC]
 have lt_B0 := B0.lt
 have lt_B1 := B1.lt
 have lt_B2 := B2.lt
 have lt_B3 := B3.lt
 have lt_B4 := B4.lt
 go_wp2_with (first | rw [← z64] | (refine zla (.tmp 8) B4 Try.underlying23 Try.size23 ?_) | (refine zsr (.tmp 6) (.tmp 16) (resP p f m) B2 Try.size23 ?_; try simp only [Act.put]))
 obtain ⟨W4, hwo, hzQ⟩ : ∃ v : World, v = (W3.setRow (w.heap.size + 1 + 1) (zb 64 (resP p f m))) ∧ Blk v (w.heap.size) 64 23 (f) ∧ Blk v (w.heap.size + 1) 64 23 (m) ∧ Blk v (w.heap.size + 1 + 1) 64 23 (resP p f m) ∧ Blk v (N1) 64 23 (quoP p f m) ∧ Blk v (N1 + 1) 64 23 (resP p f m) ∧ Below w.heap.size w v := ⟨_, rfl, (B0.rowOther (by omega)), (B1.rowOther (by omega)), (B2.row (resP p f m)), (B3.rowOther (by omega)), (B4.rowOther (by omega)), (zr hb (by omega) _)⟩
 rw [← hwo]
 clear hwo B0 B1 B2 B3 B4 hb
 obtain ⟨B0, B1, B2, B3, B4, hb⟩ := hzQ
 try simp only [Act.put, pA, pB, pC]
 refine bodyPost_ret (zrb rfl _ _ _ 64 23 5 _ rfl B2 Try.underlying23 Try.size23) rfl ⟨rfl, hb⟩
end Go.Proofs.Ytoncepgcfifgbaa
end
section
namespace Go.Proofs.Ytoncepgcfifgbaa
open Go.RowKit
set_option linter.unusedVariables false
set_option linter.unusedSimpArgs false
attribute [local irreducible] deg invN dS qS stp stpr quoP resP oneP
set_option maxRecDepth 100000 in
set_option maxHeartbeats 400000 in
theorem restOf_any (p : Nat) (f m : Nat → Nat) (w : World) (hpr : p = 2 ∨ p = 3 ∨ p = 5 ∨ p = 7) (lf : ∀ k, k < 64 → f k < p) (lm : ∀ k, k < 64 → m k < p) (h0 : 0 ≤ deg m) :
 Calls Try.prog 150 #[.int .i64 (p : Int), .agg (zb 64 f), .agg (zb 64 m)] w fun e w' => e = .returned (.agg (zb 64 (resP p f m))) ∧ Below w.heap.size w w' := by
 go_enter Try.func150, Try.ntmps150
 go_upto_region 1 with (fail)
 rw [← z64]
 obtain ⟨W1, hwo⟩ : ∃ v : World, v = (((w.alloc (.cells (zb 64 (f)) 23)).alloc (.cells (zb 64 (m)) 23)).alloc (.cells (zb 64 fun _ => 0) 23)) := ⟨_, rfl⟩
 have B0 : Blk W1 (w.heap.size) 64 23 (f) := by subst hwo; have := (((Blk.new w 64 23 (f)).alloc (.cells (zb 64 (m)) 23)).alloc (.cells (zb 64 fun _ => 0) 23)); simpa using this
 have B1 : Blk W1 (w.heap.size + 1) 64 23 (m) := by subst hwo; have := ((Blk.new (w.alloc (.cells (zb 64 (f)) 23)) 64 23 (m)).alloc (.cells (zb 64 fun _ => 0) 23)); simpa using this
 have B2 : Blk W1 (w.heap.size + 1 + 1) 64 23 (fun _ => 0) := by subst hwo; have := (Blk.new ((w.alloc (.cells (zb 64 (f)) 23)).alloc (.cells (zb 64 (m)) 23)) 64 23 (fun _ => 0)); simpa using this
 have hb : Below w.heap.size w W1 := by subst hwo; exact ((((Below.refl _ _).alloc (Nat.le_refl _) _).alloc (by simp) _).alloc (by simp; omega) _)
 rw [← hwo]
 clear hwo
 have lt_B0 := B0.lt
 have lt_B1 := B1.lt
 have lt_B2 := B2.lt
 go_upto_region 2 with (first | rw [← z64] | (refine zla (.tmp 4) B0 Try.underlying23 Try.size23 ?_) | (refine zla (.tmp 5) B1 Try.underlying23 Try.size23 ?_) | (go_at_call 167; refine (quotientAndRest_any p f m _ hpr lf lm h0).mono ?_; rintro e W2 ⟨rfl, hW2⟩; replace B0 := B0.zw hW2; replace B1 := B1.zw hW2; replace B2 := B2.zw hW2; replace hb := (hb).trans (hW2.mono (hb).size)) | (refine wpList_store_blk rfl 23 (.tmp 7) (.tmp 14) rfl _ 64 (quoP p f m) rfl rfl 23 _ (((Blk.new W2 64 23 (fun _ => 0)).alloc (.cells (zb 64 fun _ => 0) 23))) Try.size23 ?_; try simp only [Act.put]) | (refine wpList_store_blk rfl 23 (.tmp 8) (.tmp 15) rfl _ 64 (resP p f m) rfl rfl 23 _ (((show Blk ((W2.alloc (.cells (zb 64 fun _ => 0) 23)).alloc (.cells (zb 64 fun _ => 0) 23)) (W2.heap.size + 1) 64 23 (fun _ => 0) by have := Blk.new (W2.alloc (.cells (zb 64 fun _ => 0) 23)) 64 23 (fun _ => 0); simpa using this).rowOther (by omega))) Try.size23 ?_; try simp only [Act.put]))
 have lt_B0 := B0.lt
 have lt_B1 := B1.lt
 have lt_B2 := B2.lt
 have lhb := hb.size
 obtain ⟨W3, hwo, hzQ⟩ : ∃ v : World, v = ((((W2.alloc (.cells (zb 64 fun _ => 0) 23)).alloc (.cells (zb 64 fun _ => 0) 23)).setRow (W2.heap.size) (zb 64 (quoP p f m))).setRow (W2.heap.size + 1) (zb 64 (resP p f m))) ∧ Blk v (w.heap.size) 64 23 (f) ∧ Blk v (w.heap.size + 1) 64 23 (m) ∧ Blk v (w.heap.size + 1 + 1) 64 23 (fun _ => 0) ∧ Blk v (W2.heap.size) 64 23 (quoP p f m) ∧ Blk v (W2.heap.size + 1) 64 23 (resP p f m) ∧ Below w.heap.size w v := ⟨_, rfl, ((((B0.alloc (.cells (zb 64 fun _ => 0) 23)).alloc (.cells (zb 64 fun _ => 0) 23)).rowOther (by omega)).rowOther (by omega)), ((((B1.alloc (.cells (zb 64 fun _ => 0) 23)).alloc (.cells (zb 64 fun _ => 0) 23)).rowOther (by omega)).rowOther (by omega)), ((((B2.alloc (.cells (zb 64 fun _ => 0) 23)).alloc (.cells (zb 64 fun _ => 0) 23)).rowOther (by omega)).rowOther (by omega)), ((((Blk.new W2 64 23 (fun _ => 0)).alloc (.cells (zb 64 fun _ => 0) 23)).row (quoP p f m)).rowOther (by omega)), (((show Blk ((W2.alloc (.cells (zb 64 fun _ => 0) 23)).alloc (.cells (zb 64 fun _ => 0) 23)) (W2.heap.size + 1) 64 23 (fun _ => 0) by have := Blk.new (W2.alloc (.cells (zb 64 fun _ => 0) 23)) 64 23 (fun _ => 0); simpa using this).rowOther (by omega)).row (resP p f m)), (zr (zr ((hb.alloc (by have := hb.size; simp; omega) (.cells (zb 64 fun _ => 0) 23)).alloc (by have := hb.size; simp; omega) (.cells (zb 64 fun _ => 0) 23)) (by omega) _) (by omega) _)⟩
 rw [← hwo]
 clear hwo B0 B1 B2 hb
 obtain ⟨B0, B1, B2, B3, B4, hb⟩ := hzQ
 obtain ⟨N1, hNN⟩ : ∃ n : Nat, n = W2.heap.size := ⟨_, rfl⟩
 rw [← hNN] at lt_B0 lt_B1 lt_B2 lhb B3 B4 ⊢
 clear hNN
 have zN1_0 := lt_B0
 have zN1_1 := lt_B1
 have zN1_2 := lt_B2
 have zN1 := lhb
 clear lt_B0 lt_B1 lt_B2 lhb
 try simp only [Act.put, pA, pB, pC]
 have lt_B0 := B0.lt
 have lt_B1 := B1.lt
 have lt_B2 := B2.lt
 have lt_B3 := B3.lt
 have lt_B4 := B4.lt
 go_wp2_with (first | rw [← z64] | (refine zla (.tmp 8) B4 Try.underlying23 Try.size23 ?_) | (refine zsr (.tmp 6) (.tmp 16) (resP p f m) B2 Try.size23 ?_; try simp only [Act.put]))
 obtain ⟨W4, hwo, hzQ⟩ : ∃ v : World, v = (W3.setRow (w.heap.size + 1 + 1) (zb 64 (resP p f m))) ∧ Blk v (w.heap.size) 64 23 (f) ∧ Blk v (w.heap.size + 1) 64 23 (m) ∧ Blk v (w.heap.size + 1 + 1) 64 23 (resP p f m) ∧ Blk v (N1) 64 23 (quoP p f m) ∧ Blk v (N1 + 1) 64 23 (resP p f m) ∧ Below w.heap.size w v := ⟨_, rfl, (B0.rowOther (by omega)), (B1.rowOther (by omega)), (B2.row (resP p f m)), (B3.rowOther (by omega)), (B4.rowOther (by omega)), (zr hb (by omega) _)⟩
 rw [← hwo]
 clear hwo B0 B1 B2 B3 B4 hb
 obtain ⟨B0, B1, B2, B3, B4, hb⟩ := hzQ
 try simp only [Act.put, pA, pB, pC]
 refine bodyPost_ret (zrb rfl _ _ _ 64 23 5 _ rfl B2 Try.underlying23 Try.size23) rfl ⟨rfl, hb⟩
end Go.Proofs.Ytoncepgcfifgbaa
end
section
namespace Go.Proofs.Ytoncepgcfifgbaa
open Go.RowKit
/-- residues are told by their class -/
theorem res_sameN {p : Nat} {a b m : Nat → Nat} (hp : p = 2 ∨ p = 3 ∨ p = 5 ∨ p = 7) (ha : ∀ k, k < 64 → a k < p) (hb : ∀ k, k < 64 → b k < p) (hm : ∀ k, k < 64 → m k < p) (h0 : 0 ≤ deg m) (h1 : deg a < deg m) (h2 : deg b < deg m) (h : rm p (lz m) (lz a) (lz b)) : ∀ k, k < 64 → a k = b k := by
 have hp0 : 0 < p := by omega
 obtain ⟨d, hd⟩ : ∃ d : Nat, deg m = (d : Int) := ⟨(deg m).toNat, by omega⟩
 obtain ⟨d6, m2, m3⟩ := deg_top hd
 obtain ⟨_, _, iv3, _⟩ := invF hp m2 (hm d d6)
 have low : ∀ (f : Nat → Nat), deg f < (d : Int) → ∀ k, d ≤ k → lz f k = 0 := by
  intro f hf k hk
  unfold lz
  by_cases hk2 : k < 64
  · rw [cut_in _ hk2, zero_above (f := f) (k := k) (by omega) hk2]; rfl
  · rw [zcz _ (by omega)]; rfl
 have hu := rm_unique (d := d) (v := (invN p (m d) : Int)) (m := lz m) (f := lz a) (g := lz b) (p := p) (by
  unfold lz; rw [cut_in m d6]
  have := mod_dvd p (invN p (m d) * m d)
  rw [iv3] at this
  obtain ⟨x, hx⟩ := this
  rw [Int.natCast_mul, Int.mul_comm] at hx
  exact ⟨-x, by rw [Int.mul_neg]; omega⟩) (fun k hk => lz_above hd hk) (fun k hk => by
  rw [low _ (by omega) k hk, low _ (by omega) k hk]; exact ⟨0, by omega⟩) h
 exact lz_inj ha hb hu
end Go.Proofs.Ytoncepgcfifgbaa
namespace Go.Proofs.Ytoncepgcfifgbaa
open Go Go.RowKit Go.ChangeMaps
open Go.Maps (Keyed)
/-- block b is a map with the entries L, keys of type k -/
def MapG (P : Program) (k : TypeId) (w : World) (b : Nat) (L : List (Value × Value)) : Prop :=
 ∃ es clock, w.heap[b]? = some (.map es clock) ∧ es.toList.map (fun e => (e.key, e.val)) = L ∧ ∀ e ∈ es.toList, ∃ l, keyOf P k e.key = some l
theorem MapG.lt {P : Program} {k : TypeId} {w : World} {b : Nat} {L : List (Value × Value)} (h : MapG P k w b L) : b < w.heap.size := by
 obtain ⟨es, clock, hb, _⟩ := h
 exact (Array.getElem?_eq_some_iff.1 hb).1
theorem MapG.new (P : Program) (k : TypeId) (w : World) : MapG P k (w.alloc (.map #[] 0)) w.heap.size [] := ⟨#[], 0, (MapKept.heap_alloc w _).1, rfl, by simp⟩
theorem MapG.of {P : Program} {k : TypeId} {w w' : World} {b : Nat} {L : List (Value × Value)} (h : MapG P k w b L) (e : w'.heap[b]? = w.heap[b]?) : MapG P k w' b L := by
 obtain ⟨es, clock, hb, r⟩ := h
 exact ⟨es, clock, e.trans hb, r⟩
theorem MapG.alloc {P : Program} {k : TypeId} {w : World} {b : Nat} {L : List (Value × Value)} (h : MapG P k w b L) (o : Obj) : MapG P k (w.alloc o) b L := h.of (Below.heap_alloc _ _ _ h.lt)
theorem MapG.drew {P : Program} {k : TypeId} {w : World} {b : Nat} {L : List (Value × Value)} (h : MapG P k w b L) : MapG P k w.drew b L := h
theorem MapG.below {P : Program} {k : TypeId} {w w' : World} {B b : Nat} {L : List (Value × Value)} (h : MapG P k w b L) (hb : Below B w w') (e : b < B) : MapG P k w' b L := h.of (hb.block b e)
theorem MapG.zw {P : Program} {k : TypeId} {w w' : World} {b : Nat} {L : List (Value × Value)} (h : MapG P k w b L) (hb : Below w.heap.size w w') : MapG P k w' b L := MapG.below h hb (MapG.lt h)
theorem MapG.setOther {P : Program} {k : TypeId} {w : World} {b : Nat} {L : List (Value × Value)} (h : MapG P k w b L) {a : Addr} {v : Value} (e : b ≠ a.block) : MapG P k (w.setCell a v) b L := h.of (heap_setCell_other _ _ _ _ e)
theorem MapG.rowOther {P : Program} {k : TypeId} {w : World} {b : Nat} {L : List (Value × Value)} (h : MapG P k w b L) {j : Nat} {cs : Array Value} (e : b ≠ j) : MapG P k (w.setRow j cs) b L := h.of (setRow_other _ _ _ _ e)
/-- block b is one cell that holds v -/
def One (w : World) (b : Nat) (t : TypeId) (v : Value) : Prop := w.heap[b]? = some (.cells #[v] t (0, 0))
theorem One.new (w : World) (t : TypeId) (v : Value) : One (w.alloc (.cells #[v] t)) w.heap.size t v := heap_alloc_last w _
theorem One.lt {w : World} {b : Nat} {t : TypeId} {v : Value} (h : One w b t v) : b < w.heap.size := by
 unfold One at h
 exact (Array.getElem?_eq_some_iff.1 h).1
theorem One.cell {w : World} {b : Nat} {t : TypeId} {v : Value} (h : One w b t v) : w.cell? ⟨b, 0, none⟩ = some v := by
 rw [cell_of_row _ _ _ _ _ _ h]; rfl
theorem One.frozen {w : World} {b : Nat} {t : TypeId} {v : Value} (h : One w b t v) (i : Nat) : w.frozen? ⟨b, i, none⟩ = false := frozen_of_row _ _ _ _ _ h
theorem One.of {w w' : World} {b : Nat} {t : TypeId} {v : Value} (h : One w b t v) (e : w'.heap[b]? = w.heap[b]?) : One w' b t v := by unfold One at *; rw [e]; exact h
theorem One.alloc {w : World} {b : Nat} {t : TypeId} {v : Value} (h : One w b t v) (o : Obj) : One (w.alloc o) b t v := h.of (Below.heap_alloc _ _ _ h.lt)
theorem One.drew {w : World} {b : Nat} {t : TypeId} {v : Value} (h : One w b t v) : One w.drew b t v := h
theorem One.below {w w' : World} {B b : Nat} {t : TypeId} {v : Value} (h : One w b t v) (hb : Below B w w') (e : b < B) : One w' b t v := h.of (hb.block b e)
theorem One.zw {w w' : World} {b : Nat} {t : TypeId} {v : Value} (h : One w b t v) (hb : Below w.heap.size w w') : One w' b t v := One.below h hb (One.lt h)
theorem One.setOther {w : World} {b : Nat} {t : TypeId} {v x : Value} (h : One w b t v) {a : Addr} (e : b ≠ a.block) : One (w.setCell a x) b t v := h.of (heap_setCell_other _ _ _ _ e)
theorem One.rowOther {w : World} {b : Nat} {t : TypeId} {v : Value} (h : One w b t v) {j : Nat} {cs : Array Value} (e : b ≠ j) : One (w.setRow j cs) b t v := h.of (setRow_other _ _ _ _ e)
theorem One.grown {w w' : World} {b j : Nat} {t : TypeId} {v : Value} (h : One w b t v) (hg : w.grownBy w' (some j)) (e : b ≠ j) : One w' b t v := h.of (hg.block b h.lt (fun x => e (by cases x; rfl)))
theorem wp_load_one {P : Program} {o : Oper} {a : Act} {w : World} {K : Act → World → Prop} {Q : Exit → Act → World → Prop} (ty : TypeId) (x : Operand) (ho : o.op = .load ty x)
 (b : Nat) (hx : a.eval x = .pointer (some ⟨b, 0, none⟩)) (t : TypeId) (v : Value) (hb : One w b t v) (d : TypeDesc)
 (hu : P.underlying ty = some d) (hd : (match d with | .struct _ | .array _ _ => true | _ => false) = false) (h : K (a.put o.dst v) w) : o.wp P a w K Q := by
 have hc := hb.cell
 have hagg : (isAgg ty).run P w = .ok false w := by
  unfold isAgg
  rw [Sem.run_bind, run_underlying hu w]
  cases d <;> simp_all
 unfold Oper.wp execOp
 simp only [ho, hx, Instr.loadAt, Instr.sureAddr, Sem.run_bind, Sem.run_pure, Result.andThen_ok, loadVar, hagg, Bool.false_eq_true, if_false, Sem.run_ite, run_load, hc]
 exact h
theorem zlo {P : Program} {ops : Array Oper} {rest : List Oper} {o : Oper} {a : Act} {w : World} {Q : Exit → Act → World → Prop} (hgd : o.guard = none) (ty : TypeId) (x : Operand) (ho : o.op = .load ty x)
 (b : Nat) (hx : a.eval x = .pointer (some ⟨b, 0, none⟩)) (t : TypeId) (v : Value) (hb : One w b t v) (d : TypeDesc)
 (hu : P.underlying ty = some d) (hd : (match d with | .struct _ | .array _ _ => true | _ => false) = false) (h : wpList P ops Q rest (a.put o.dst v) w) : wpList P ops Q (o :: rest) a w :=
 wpList_plain hgd fun _ hK => wp_load_one ty x ho b hx t v hb d hu hd (hK _ _ h)
/-- the look-up at a key -/
theorem MapG.look {P : Program} {k e t : TypeId} (K : Keyed P k) (ht : P.underlying t = some (.map k e)) {w : World} {b : Nat} {L : List (Value × Value)} (h : MapG P k w b L) {z : Value} (hz : (zeroValue e).run P w = .ok z w) (c : Bool) {key : Value} {kl : Lit} (hkey : keyOf P k key = some kl) :
 ((Instr.lookup t (.map (some b)) key c).run P w = .ok (if c then .tuple #[z, .bool false] else z) w ∧ ∀ q ∈ L, q.1 ≠ key) ∨
 ∃ v, (key, v) ∈ L ∧ (Instr.lookup t (.map (some b)) key c).run P w = .ok (if c then .tuple #[v, .bool true] else v) w := by
 obtain ⟨es, clock, hb, rfl, hr⟩ := h
 rcases K.find w hkey es.toList hr with ⟨h1, h2⟩ | ⟨j, e0, h1, h2, h3⟩
 · refine .inl ⟨by simp [Instr.lookup, run_underlying ht, MapKept.run_getObj_map hb, K.check w _ hkey, h1, hz, Result.andThen], ?_⟩
   intro q hq
   obtain ⟨e, he, rfl⟩ := List.mem_map.1 hq
   exact h2 e he
 · refine .inr ⟨e0.val, ?_, by simp [Instr.lookup, run_underlying ht, MapKept.run_getObj_map hb, K.check w _ hkey, h1, Result.andThen]⟩
   exact List.mem_map.2 ⟨e0, List.mem_of_getElem? h2, by rw [h3]⟩
/-- a new key -/
theorem MapG.put {P : Program} {k e t : TypeId} (K : Keyed P k) (ht : P.underlying t = some (.map k e)) {w : World} {b : Nat} {L : List (Value × Value)} (h : MapG P k w b L) {key val : Value} {kl : Lit} (hkey : keyOf P k key = some kl) (hn : ∀ q ∈ L, q.1 ≠ key) :
 ∃ w', (Instr.mapUpdate t (.map (some b)) key val).run P w = .ok () w' ∧ MapG P k w' b (L ++ [(key, val)]) ∧ w.grownBy w' (some b) := by
 obtain ⟨es, clock, hb, rfl, hr⟩ := h
 rcases K.find w hkey es.toList hr with ⟨h1, h2⟩ | ⟨j, e0, h1, h2, h3⟩
 · refine ⟨setBlock w b (.map (es.push ⟨key, val, clock⟩) (clock + 1)), ?_, ⟨_, _, heap_setBlock_same hb _, by simp, ?_⟩, ⟨rfl, rfl, rfl, by simp [setBlock], fun i _ hi => heap_setBlock_other hb _ (fun e => hi (by rw [e]))⟩⟩
   · simp [Instr.mapUpdate, run_underlying ht, MapKept.run_getObj_map hb, K.check w false hkey, h1, MapKept.run_setObj_map _ hb, Result.andThen, setBlock]
   · intro x hx
     simp only [Array.toList_push, List.mem_append, List.mem_singleton] at hx
     rcases hx with hx | rfl
     · exact hr x hx
     · exact ⟨_, hkey⟩
 · exact absurd h3 (hn (e0.key, e0.val) (List.mem_map.2 ⟨e0, List.mem_of_getElem? h2, rfl⟩))
/-- what a store into the map leaves of another block -/
theorem Blk.grown {w w' : World} {b n j : Nat} {t : TypeId} {f : Nat → Nat} (h : Blk w b n t f) (hg : w.grownBy w' (some j)) (e : b ≠ j) : Blk w' b n t f := by
 have hl := h.lt
 unfold Blk at *; rw [hg.block b hl (fun x => e (by cases x; rfl))]; exact h
attribute [irreducible] MapG One
end Go.Proofs.Ytoncepgcfifgbaa
end
section
namespace Go.Proofs.Ytoncepgcfifgbaa
theorem pow_big {p k : Nat} (h1 : 1 ≤ p) (h2 : p ≤ 7) (hk : k ≤ 20) : 1 ≤ p ^ k ∧ p ^ k ≤ 79792266297612001 := by
 have a1 : p ^ k ≤ 7 ^ k := Nat.pow_le_pow_left h2 k
 have a2 : 7 ^ k ≤ 7 ^ 20 := Nat.pow_le_pow_right (by omega) hk
 have a3 : 1 ≤ p ^ k := Nat.pow_pos (by omega)
 have a4 : 7 ^ 20 = 79792266297612001 := by decide
 omega
end Go.Proofs.Ytoncepgcfifgbaa
namespace Go.Proofs.Ytoncepgcfifgbaa
open Go.RowKit
set_option linter.unusedVariables false
set_option linter.unusedSimpArgs false
theorem norm_any (p n : Nat) (w : World) (hp1 : 2 ≤ p) (hp2 : p ≤ 7) (hn : n ≤ 20) :
 Calls Try.prog 108 #[.int .i64 (p : Int), .int .i64 (n : Int)] w fun e w' => e = .returned (.int .i64 ((p ^ n : Nat) : Int)) ∧ w = w' := by
 go_enter Try.func108, Try.ntmps108
 go_wp2_with fail
 go_loopw [5, 7] (fun x i wr => ∃ k X : Nat, k ≤ n ∧ X = p ^ k ∧ x = .int .i64 (X : Int) ∧ i = .int .i64 (k : Int) ∧ wr = w) (fun _ i _ => n - (intOf i).toNat)
 case atStart => exact ⟨0, 1, by omega, rfl, rfl, rfl, rfl⟩
 case round =>
  obtain ⟨k, X, hk, hX, rfl, rfl, rfl⟩ := hrel
  obtain ⟨x1, x2⟩ := pow_big (p := p) (k := k) (by omega) hp2 (by omega)
  rw [← hX] at x1 x2
  by_cases hlt : k < n
  · obtain ⟨y1, y2⟩ := pow_big (p := p) (k := k + 1) (by omega) hp2 (by omega)
    rw [Nat.pow_succ, ← hX] at y1 y2
    have HX := Lib.hid hX; clear hX
    have z1 : ((X * p : Nat) : Int) ≤ 79792266297612001 := by omega
    have z2 : 1 ≤ ((X * p : Nat) : Int) := by omega
    rw [Int.natCast_mul] at z1 z2
    clear y1 y2
    go_wp2_with fail
    go_roundw
    case rel => exact ⟨k + 1, X * p, by omega, by rw [Nat.pow_succ, ← HX.out], by go_num, by go_num, trivial⟩
    case measure => simp [intOf]; omega
  · have e : k = n := by omega
    subst e
    have HX := Lib.hid hX; clear hX
    go_wp2_with fail
    go_ret
    exact ⟨ret_int (congrArg (fun x : Nat => (x : Int)) HX.out), rfl⟩
end Go.Proofs.Ytoncepgcfifgbaa
namespace Go.Proofs.Ytoncepgcfifgbaa
open Go Go.RowKit
set_option linter.unusedVariables false
/-- v is a slice of the rows cs, each of so many cells, in a block from base on (or nil) -/
def SlL (w : World) (base : Nat) (e : TypeId) (size : Nat) (v : Value) (cs : List (List Value)) : Prop := base ≤ w.heap.size ∧ (∀ c ∈ cs, c.length = size) ∧ w.ownsRow base e size v cs.length cs.flatten
theorem SlL.lt {w : World} {base : Nat} {e : TypeId} {size : Nat} {v : Value} {cs : List (List Value)} (h : SlL w base e size v cs) : base ≤ w.heap.size := h.1
theorem SlL.nil {w : World} {base : Nat} (e : TypeId) (size : Nat) (h : base ≤ w.heap.size) : SlL w base e size (.slice none 0 0) [] := ⟨h, by simp, World.ownsRow_nil _ _ _ _⟩
theorem SlL.grown {w w' : World} {base : Nat} {e : TypeId} {size : Nat} {v : Value} {cs : List (List Value)} {row : Option Nat} (h : SlL w base e size v cs) (hg : w.grownBy w' row) (hr : ∀ r, row = some r → r < base) : SlL w' base e size v cs :=
 ⟨Nat.le_trans h.1 hg.size, h.2.1, h.2.2.kept hg (by
  cases hv : v.ownBlock with
  | none => exact .inl rfl
  | some k =>
   right
   intro he
   have h1 := (h.2.2.lt k hv).1
   have h2 := hr k he.symm
   omega)⟩
theorem SlL.alloc {w : World} {base : Nat} {e : TypeId} {size : Nat} {v : Value} {cs : List (List Value)} (h : SlL w base e size v cs) (o : Obj) : SlL (w.alloc o) base e size v cs := h.grown (World.grownBy_alloc w o none) (fun r e => by cases e)
theorem SlL.drew {w : World} {base : Nat} {e : TypeId} {size : Nat} {v : Value} {cs : List (List Value)} (h : SlL w base e size v cs) : SlL w.drew base e size v cs := h
theorem SlL.below {w w' : World} {base : Nat} {e : TypeId} {size : Nat} {v : Value} {cs : List (List Value)} (h : SlL w base e size v cs) (hb : Below w.heap.size w w') (_ : base ≤ w.heap.size) : SlL w' base e size v cs :=
 h.grown (row := none) ⟨hb.os, hb.tape, hb.output, hb.size, fun k hk _ => hb.block k hk⟩ (fun r e => by cases e)
theorem SlL.zw {w w' : World} {base : Nat} {e : TypeId} {size : Nat} {v : Value} {cs : List (List Value)} (h : SlL w base e size v cs) (hb : Below w.heap.size w w') : SlL w' base e size v cs := SlL.below h hb (SlL.lt h)
theorem SlL.rowOther {w : World} {base : Nat} {e : TypeId} {size : Nat} {v : Value} {cs : List (List Value)} (h : SlL w base e size v cs) {k : Nat} {xs : Array Value} (hk : k < base) : SlL (w.setRow k xs) base e size v cs :=
 h.grown (row := some k) ⟨rfl, rfl, rfl, by simp [World.setRow], fun j _ hj => setRow_other _ _ _ _ (fun e => hj (by rw [e]))⟩ (fun r e => by cases e; exact hk)
theorem SlL.setOther {w : World} {base : Nat} {e : TypeId} {size : Nat} {v x : Value} {cs : List (List Value)} (h : SlL w base e size v cs) {a : Addr} (ha : a.block < base) : SlL (w.setCell a x) base e size v cs :=
 ⟨by simpa using h.1, h.2.1, ownsRow_setCell_below h.2.2 ha x⟩
theorem SlL.own {w : World} {base : Nat} {e : TypeId} {size : Nat} {v : Value} {cs : List (List Value)} (h : SlL w base e size v cs) : ∀ r, v.ownBlock = some r → base ≤ r := fun r hr => (h.2.2.lt r hr).1
theorem SlL.shape {w : World} {base : Nat} {e : TypeId} {size : Nat} {v : Value} {cs : List (List Value)} (h : SlL w base e size v cs) : (v = .slice none 0 0 ∧ cs = []) ∨ ∃ g cap, v = .slice (some ⟨g, 0, none⟩) cs.length cap := by
 obtain ⟨_, _, _, h | ⟨g, cap, cur, rfl, _⟩⟩ := h
 · exact .inl ⟨h.1, List.eq_nil_of_length_eq_zero h.2⟩
 · exact .inr ⟨g, cap, rfl⟩
theorem flat_at : ∀ (cs : List (List Value)) (size i : Nat) (c : List Value) (j : Nat) (u : Value), (∀ c ∈ cs, c.length = size) → cs[i]? = some c → c[j]? = some u → cs.flatten[i * size + j]? = some u
 | [], _, _, _, _, _, _, h, _ => by simp at h
 | g :: cs, size, 0, c, j, u, _, h, hj => by
  simp only [List.getElem?_cons_zero, Option.some.injEq] at h
  subst h
  rw [List.flatten_cons, Nat.zero_mul, Nat.zero_add, List.getElem?_append_left (List.getElem?_eq_some_iff.1 hj).1]
  exact hj
 | g :: cs, size, i + 1, c, j, u, hs, h, hj => by
  have hg : g.length = size := hs g (by simp)
  have e1 : (i + 1) * size = i * size + size := Nat.succ_mul i size
  rw [List.flatten_cons, List.getElem?_append_right (by rw [hg]; omega), hg]
  have := flat_at cs size i c j u (fun c hc => hs c (by simp [hc])) (by simpa using h) hj
  rw [show (i + 1) * size + j - size = i * size + j by omega]
  exact this
/-- the cells of one element -/
theorem SlL.range {w : World} {base : Nat} {e : TypeId} {size g n cap : Nat} {cs : List (List Value)} (h : SlL w base e size (.slice (some ⟨g, 0, none⟩) n cap) cs) {i : Nat} {c : List Value} (hi : cs[i]? = some c) : w.rangeAt g (i * size) c := by
 intro j u hu
 obtain ⟨_, hs, hl, h | ⟨g', cap', cur, hv, hg, hh, h1, h2, h3, h4⟩⟩ := h
 · cases h.1
 · injection hv with e1 e2 e3
   injection e1 with e1
   injection e1 with e1
   subst e1
   rw [cell_of_row _ _ _ _ _ _ hh]
   have hc : cs.flatten[i * size + j]? = some u := flat_at cs size i c j u hs hi hu
   rw [← h4] at hc
   have hlt : i * size + j < cs.length * size := by
    have := (List.getElem?_eq_some_iff.1 hc).1
    rw [List.length_take] at this
    omega
   rw [List.getElem?_take_of_lt hlt] at hc
   rw [← Array.getElem?_toList]
   exact hc
theorem One.row {w : World} {b : Nat} {t : TypeId} {v : Value} (h : One w b t v) (u : Value) : One (w.setRow b #[u]) b t u := by
 unfold One at *
 exact setRow_heap _ _ _ _ _ _ h
theorem wpList_store_oneV {P : Program} {ops : Array Oper} {rest : List Oper} {o : Oper} {a : Act} {w : World} {Q : Exit → Act → World → Prop} (hgd : o.guard = none) (ty : TypeId) (x y : Operand) (ho : o.op = .store ty x y)
 (b : Nat) (hx : a.eval x = .pointer (some ⟨b, 0, none⟩)) (u : Value) (hy : a.eval y = u) (h1 : u.oneCell' = true) (t : TypeId) (old : Value) (hb : One w b t old) (hi : (P.info? ty).map (·.size) = some 1)
 (h : wpList P ops Q rest (a.put o.dst undef) (w.setRow b #[u])) : wpList P ops Q (o :: rest) a w := by
 subst hy
 unfold One at hb
 exact wpList_store_one hgd ty x y ho b hx h1 t old hb hi h
/-- append of one element -/
theorem wpList_append_sl {P : Program} (w : World) {ops : Array Oper} {rest : List Oper} {o : Oper} {a : Act} {Q : Exit → Act → World → Prop}
 (hg : o.guard = none) (s x : Operand) (t : TypeId) (hop : o.op = Op.call { callee := Callee.builtin Builtin.append, args := #[s, x], argTypes := #[t, t] })
 (base : Nat) (e : TypeId) (z : Value) (size bytes : Nat) (h1 : P.underlying t = some (.slice e)) (h2 : (P.info? e).map (fun i => (i.zero, i.size, i.bytes)) = some (some z, size, bytes)) (h6 : z.cells.size = size) (h7 : 0 < size)
 (v : Value) (cs : List (List Value)) (hs : a.eval s = v) (hown : SlL w base e size v cs) (g : Nat) (c : List Value) (hx : a.eval x = .slice (some ⟨g, 0, none⟩) 1 1) (hc : c.length = size)
 (hcell : w.rangeAt g 0 c) (h1c : ∀ u ∈ c, u.oneCell' = true) (b1 : cs.length + 1 ≤ maxLen) (b2 : (cs.length + 1) * bytes ≤ 140737488355328)
 (hK : ∀ v' w', SlL w' base e size v' (cs ++ [c]) → w.grownBy w' v.ownBlock → wpList P ops Q rest (a.put o.dst v') w') : wpList P ops Q (o :: rest) a w := by
 obtain ⟨i0, hi, hz0, hz1, hz2⟩ := info_parts h2
 refine wpList_append_own w hg s x t hop base e i0 z size bytes h1 hi hz0 hz1 hz2 h6 h7 v cs.length cs.flatten hs hown.2.2 ⟨g, 0, none⟩ 1 1 c hx (by omega) (fun j u hu => ?_) h1c b1 b2 hown.1 ?_
 · have := hcell j u hu
   rw [Nat.zero_add] at this
   have e : (⟨g, 0, none⟩ : Addr).add j = ⟨g, j, none⟩ := by unfold Addr.add; split <;> simp_all
   rw [e]; exact this
 · intro v' w' h1' h2' _
   refine hK v' w' ⟨Nat.le_trans hown.1 h2'.size, fun d hd => ?_, by simpa using h1'⟩ h2'
   rcases List.mem_append.1 hd with h | h
   · exact hown.2.1 d h
   · rw [List.mem_singleton] at h; rw [h]; exact hc
/-- what lies below the slice's block stays -/
theorem Blk.grownO {w w' : World} {b n : Nat} {t : TypeId} {f : Nat → Nat} {row : Option Nat} (h : Blk w b n t f) (hg : w.grownBy w' row) {base : Nat} (hr : ∀ r, row = some r → base ≤ r) (e : b < base) : Blk w' b n t f := by
 have hl := h.lt
 unfold Blk at *; rw [hg.block b hl (fun x => by have := hr b x.symm; omega)]; exact h
theorem One.grownO {w w' : World} {b : Nat} {t : TypeId} {v : Value} {row : Option Nat} (h : One w b t v) (hg : w.grownBy w' row) {base : Nat} (hr : ∀ r, row = some r → base ≤ r) (e : b < base) : One w' b t v :=
 h.of (hg.block b h.lt (fun x => by have := hr b x.symm; omega))
theorem SlL.grownN {w w' : World} {base : Nat} {e : TypeId} {size : Nat} {v : Value} {cs : List (List Value)} {row : Option Nat} (h : SlL w base e size v cs) (hg : w.grownBy w' row) (hr : ∀ r, row = some r → ∃ o : Obj, w.heap[r]? = some o ∧ o.isCells = false) : SlL w' base e size v cs :=
 ⟨Nat.le_trans h.1 hg.size, h.2.1, h.2.2.kept hg (by
  obtain ⟨_, _, _, h | ⟨g, cap, cur, rfl, hg', hh, r⟩⟩ := h
  · left; rw [h.1]; rfl
  · right
    intro he
    obtain ⟨o, ho, hc⟩ := hr g he.symm
    rw [hh] at ho; cases ho; cases hc)⟩
theorem SlL.one {w : World} {base : Nat} {e : TypeId} {size : Nat} {v : Value} {cs : List (List Value)} (h : SlL w base e size v cs) : v.oneCell' = true := by
 rcases h.shape with ⟨rfl, _⟩ | ⟨g, cap, rfl⟩ <;> rfl
theorem SlL.ownCells {w : World} {base : Nat} {e : TypeId} {size : Nat} {v : Value} {cs : List (List Value)} (h : SlL w base e size v cs) : ∀ r, v.ownBlock = some r → ∃ cur, w.heap[r]? = some (.cells cur e (0, 0)) := by
 intro r hr
 obtain ⟨_, _, _, h | ⟨g, cap, cur, rfl, hg', hh, _⟩⟩ := h
 · rw [h.1] at hr; cases hr
 · cases hr; exact ⟨cur, hh⟩
theorem SlL.base {w : World} {base base' : Nat} {e : TypeId} {size : Nat} {v : Value} {cs : List (List Value)} (h : SlL w base e size v cs) (hb : base' ≤ base) : SlL w base' e size v cs := ⟨Nat.le_trans hb h.1, h.2.1, by
 obtain ⟨_, _, hl, h | ⟨g, cap, cur, hv, hg', r⟩⟩ := h
 · exact ⟨hl, .inl h⟩
 · exact ⟨hl, .inr ⟨g, cap, cur, hv, Nat.le_trans hb hg', r⟩⟩⟩
/-- .. whose block lies below top -/
def SlT (w : World) (base top : Nat) (e : TypeId) (size : Nat) (v : Value) (cs : List (List Value)) : Prop := SlL w base e size v cs ∧ ∀ r, v.ownBlock = some r → r < top
theorem SlL.top {w : World} {base : Nat} {e : TypeId} {size : Nat} {v : Value} {cs : List (List Value)} (h : SlL w base e size v cs) : SlT w base w.heap.size e size v cs := ⟨h, fun r hr => (h.2.2.lt r hr).2⟩
theorem SlT.lt {w : World} {base top : Nat} {e : TypeId} {size : Nat} {v : Value} {cs : List (List Value)} (h : SlT w base top e size v cs) : base ≤ w.heap.size := h.1.1
theorem SlT.alloc {w : World} {base top : Nat} {e : TypeId} {size : Nat} {v : Value} {cs : List (List Value)} (h : SlT w base top e size v cs) (o : Obj) : SlT (w.alloc o) base top e size v cs := ⟨h.1.alloc o, h.2⟩
theorem SlT.drew {w : World} {base top : Nat} {e : TypeId} {size : Nat} {v : Value} {cs : List (List Value)} (h : SlT w base top e size v cs) : SlT w.drew base top e size v cs := h
theorem SlT.below {w w' : World} {base top : Nat} {e : TypeId} {size : Nat} {v : Value} {cs : List (List Value)} (h : SlT w base top e size v cs) (hb : Below w.heap.size w w') (hl : base ≤ w.heap.size) : SlT w' base top e size v cs := ⟨h.1.below hb hl, h.2⟩
theorem SlT.zw {w w' : World} {base top : Nat} {e : TypeId} {size : Nat} {v : Value} {cs : List (List Value)} (h : SlT w base top e size v cs) (hb : Below w.heap.size w w') : SlT w' base top e size v cs := SlT.below h hb (SlT.lt h)
theorem SlT.rowOther {w : World} {base top : Nat} {e : TypeId} {size : Nat} {v : Value} {cs : List (List Value)} (h : SlT w base top e size v cs) {k : Nat} {xs : Array Value} (hk : k < base ∨ top ≤ k) : SlT (w.setRow k xs) base top e size v cs :=
 ⟨⟨by simpa [World.setRow] using h.1.1, h.1.2.1, h.1.2.2.kept (row := some k) ⟨rfl, rfl, rfl, by simp [World.setRow], fun j _ hj => setRow_other _ _ _ _ (fun e => hj (by rw [e]))⟩ (by
  cases hv : v.ownBlock with
  | none => exact .inl rfl
  | some j =>
   right
   intro he
   cases he
   have h1 := (h.1.2.2.lt k hv).1
   have h2 := h.2 k hv
   omega)⟩, h.2⟩
theorem SlT.setOther {w : World} {base top : Nat} {e : TypeId} {size : Nat} {v x : Value} {cs : List (List Value)} (h : SlT w base top e size v cs) {a : Addr} (ha : a.block < base ∨ top ≤ a.block) : SlT (w.setCell a x) base top e size v cs :=
 ⟨⟨by simpa using h.1.1, h.1.2.1, h.1.2.2.kept (row := some a.block) ⟨((Below.refl 0 w).setCell (Nat.zero_le _) x).os, ((Below.refl 0 w).setCell (Nat.zero_le _) x).tape, ((Below.refl 0 w).setCell (Nat.zero_le _) x).output, by simp, fun j _ hj => Below.heap_setCell _ _ _ _ (fun e => hj (by rw [e]))⟩ (by
  cases hv : v.ownBlock with
  | none => exact .inl rfl
  | some j =>
   right
   intro he
   have he2 : j = a.block := by injection he
   subst he2
   have h1 := (h.1.2.2.lt a.block hv).1
   have h2 := h.2 a.block hv
   omega)⟩, h.2⟩
/-- a list grows: another one, of other elements, stays -/
theorem SlL.grownE {w w' : World} {base base' : Nat} {e e' : TypeId} {size size' : Nat} {v v' : Value} {cs cs' : List (List Value)} (h : SlL w base' e' size' v' cs') (ho : SlL w base e size v cs) (hg : w.grownBy w' v.ownBlock) (hne : e ≠ e') : SlL w' base' e' size' v' cs' :=
 ⟨Nat.le_trans h.1 hg.size, h.2.1, h.2.2.kept hg (by
  cases hv : v'.ownBlock with
  | none => exact .inl rfl
  | some k =>
   right
   intro he
   obtain ⟨c1, h1⟩ := h.ownCells k hv
   obtain ⟨c2, h2⟩ := ho.ownCells k he.symm
   rw [h1] at h2
   injection h2 with h2
   injection h2 with _ h2
   exact hne h2.symm)⟩
theorem SlL.form {w : World} {base : Nat} {e : TypeId} {size : Nat} {v : Value} {cs : List (List Value)} (h : SlL w base e size v cs) : ∃ ad cap, v = .slice ad cs.length cap := by
 rcases h.shape with ⟨h1, h2⟩ | ⟨g, cap, h1⟩
 · exact ⟨none, 0, by rw [h1, h2]; rfl⟩
 · exact ⟨_, cap, h1⟩
theorem SlL.some {w : World} {base : Nat} {e : TypeId} {size n cap : Nat} {ad : Option Addr} {cs : List (List Value)} (h : SlL w base e size (.slice ad n cap) cs) (hn : 0 < cs.length) : ∃ g, ad = some ⟨g, 0, none⟩ := by
 rcases h.shape with ⟨_, h2⟩ | ⟨g, cap', h1⟩
 · rw [h2] at hn; simp at hn
 · injection h1 with h1; exact ⟨g, h1⟩
/-- block b is the row cs -/
def Row (w : World) (b : Nat) (t : TypeId) (cs : Array Value) : Prop := w.heap[b]? = some (.cells cs t (0, 0))
theorem Row.new (w : World) (t : TypeId) (cs : Array Value) : Row (w.alloc (.cells cs t)) w.heap.size t cs := heap_alloc_last w _
theorem Row.lt {w : World} {b : Nat} {t : TypeId} {cs : Array Value} (h : Row w b t cs) : b < w.heap.size := by
 unfold Row at h
 exact (Array.getElem?_eq_some_iff.1 h).1
theorem Row.of {w w' : World} {b : Nat} {t : TypeId} {cs : Array Value} (h : Row w b t cs) (e : w'.heap[b]? = w.heap[b]?) : Row w' b t cs := by unfold Row at *; rw [e]; exact h
theorem Row.alloc {w : World} {b : Nat} {t : TypeId} {cs : Array Value} (h : Row w b t cs) (o : Obj) : Row (w.alloc o) b t cs := h.of (Below.heap_alloc _ _ _ h.lt)
theorem Row.drew {w : World} {b : Nat} {t : TypeId} {cs : Array Value} (h : Row w b t cs) : Row w.drew b t cs := h
theorem Row.below {w w' : World} {B b : Nat} {t : TypeId} {cs : Array Value} (h : Row w b t cs) (hb : Below B w w') (e : b < B) : Row w' b t cs := h.of (hb.block b e)
theorem Row.zw {w w' : World} {b : Nat} {t : TypeId} {cs : Array Value} (h : Row w b t cs) (hb : Below w.heap.size w w') : Row w' b t cs := Row.below h hb (Row.lt h)
theorem Row.rowOther {w : World} {b : Nat} {t : TypeId} {cs : Array Value} (h : Row w b t cs) {j : Nat} {xs : Array Value} (e : b ≠ j) : Row (w.setRow j xs) b t cs := h.of (setRow_other _ _ _ _ e)
theorem Row.setOther {w : World} {b : Nat} {t : TypeId} {cs : Array Value} {x : Value} (h : Row w b t cs) {a : Addr} (e : b ≠ a.block) : Row (w.setCell a x) b t cs := h.of (heap_setCell_other _ _ _ _ e)
theorem Row.row {w : World} {b : Nat} {t : TypeId} {cs : Array Value} (h : Row w b t cs) (xs : Array Value) : Row (w.setRow b xs) b t xs := by
 unfold Row at *
 exact setRow_heap _ _ _ _ _ _ h
theorem Row.cell {w : World} {b : Nat} {t : TypeId} {cs : Array Value} (h : Row w b t cs) {i : Nat} {v : Value} (hi : cs[i]? = some v) : w.cell? ⟨b, i, none⟩ = some v := by
 rw [cell_of_row _ _ _ _ _ _ h]; exact hi
theorem Row.frozen {w : World} {b : Nat} {t : TypeId} {cs : Array Value} (h : Row w b t cs) (i : Nat) : w.frozen? ⟨b, i, none⟩ = false := frozen_of_row _ _ _ _ _ h
theorem Row.set {w : World} {b i : Nat} {t : TypeId} {cs : Array Value} {x : Value} (h : Row w b t cs) : Row (w.setCell ⟨b, i, none⟩ x) b t (cs.setIfInBounds i x) := by
 unfold Row at *
 rw [heap_setCell_same _ _ _ _ _ _ h]
theorem zlr {P : Program} {ops : Array Oper} {rest : List Oper} {o : Oper} {a : Act} {w : World} {Q : Exit → Act → World → Prop} (hgd : o.guard = none) (ty : TypeId) (x : Operand) (ho : o.op = .load ty x)
 (b : Nat) (hx : a.eval x = .pointer (some ⟨b, 0, none⟩)) (t : TypeId) (cs : Array Value) (hb : Row w b t cs) (d : TypeDesc)
 (hu : P.underlying ty = some d) (hd : (match d with | .struct _ | .array _ _ => true | _ => false) = true) (n : Nat) (hi : (P.info? ty).map (·.size) = some n) (hn : cs.size = n)
 (h : wpList P ops Q rest (a.put o.dst (.agg cs)) w) : wpList P ops Q (o :: rest) a w := by
 unfold Row at hb
 exact wpList_load_row hgd ty x ho b hx t _ (0, 0) d hb hu hd (by rw [hi, hn]) h
theorem wpList_store_rowv {P : Program} {ops : Array Oper} {rest : List Oper} {o : Oper} {a : Act} {w : World} {Q : Exit → Act → World → Prop} (hgd : o.guard = none) (ty : TypeId) (x y : Operand) (ho : o.op = .store ty x y)
 (b : Nat) (hx : a.eval x = .pointer (some ⟨b, 0, none⟩)) (xs : Array Value) (hy : a.eval y = .agg xs) (t : TypeId) (cs : Array Value) (hb : Row w b t cs) (n : Nat) (hi : (P.info? ty).map (·.size) = some n) (hn : cs.size = n) (hm : xs.size = n) (h1 : xs.all (·.oneCell') = true)
 (h : wpList P ops Q rest (a.put o.dst undef) (w.setRow b xs)) : wpList P ops Q (o :: rest) a w := by
 unfold Row at hb
 exact wpList_store_row hgd ty x y ho b _ hx hy t _ hb (by rw [hi, hm]) (by rw [hn, hm]) h1 h
/-- a literal of one element -/
theorem wpList_build1 {P : Program} {ops : Array Oper} {rest : List Oper} {o : Oper} {a : Act} {w : World} {Q : Exit → Act → World → Prop} (hg : o.guard = none) (t : TypeId) (parts : Array (Nat × Operand)) (c : List Value) (size : Nat)
 (ho : o.op = .buildSlice t 1 parts) (e : TypeId) (hu : P.underlying t = some (.slice e)) (hie : (P.info? e).map (fun i => (i.size, i.zero.isSome)) = some (size, true)) (hpos : 0 < size) (hsm : size ≤ 65536) (hc : c.length = size)
 (hp : (parts.toList.map fun x => (x.1, a.eval x.2)) = [(0, Value.agg c.toArray)])
 (h : ∀ w', Row w' w.heap.size e c.toArray → Below w.heap.size w w' → wpList P ops Q rest (a.put o.dst (.slice (some ⟨w.heap.size, 0, none⟩) 1 1)) w') : wpList P ops Q (o :: rest) a w := by
 cases hi : P.info? e with
 | none => simp [hi] at hie
 | some ie =>
  simp only [hi, Option.map_some, Option.some.injEq, Prod.mk.injEq] at hie
  obtain ⟨hs, hz⟩ := hie
  obtain ⟨z, hzz⟩ := Option.isSome_iff_exists.1 hz
  refine wpList_buildSlice hg t e 1 parts ho _ ie z hu hi hzz (by rw [hs]; omega) (by rw [hs]; omega) ?_ (h _ (Row.new w e c.toArray) (zal _ _))
  rw [Array.toList_map, hp, hs]
  have := fill_cat size [c] 0 [] ((Array.range (1 * size)).map (z.cells[· % z.cells.size]!)).toList (by simpa using hc) (by simp) (by simp)
  rw [List.nil_append, List.nil_append, Array.toArray_toList] at this
  simpa using this
theorem Row.range {w : World} {b : Nat} {t : TypeId} {c : List Value} (h : Row w b t c.toArray) : w.rangeAt b 0 c := by
 intro j v hv
 rw [Nat.zero_add, cell_of_row _ _ _ _ _ _ h]
 simpa using hv
attribute [irreducible] Row
attribute [irreducible] SlL
end Go.Proofs.Ytoncepgcfifgbaa
namespace Go.Proofs.Ytoncepgcfifgbaa
open Go Go.RowKit
set_option linter.unusedVariables false
/-- the fence of a round of loop l -/
abbrev WR (l : Nat) : Fence := Fence.wide.inRound l
theorem rowsW {n : Nat} {P : Program} {row : String} {args : Array Value} {w : World} {R : Value → World → Prop} {l : Nat} (h : Rows P row args w R) : RowsIn (WR l) n P row args w R := fun c cs _ =>
 let ⟨v, w', r, s⟩ := h c cs
 ⟨v, w', r, stepsIn_wide.2 s⟩
theorem operIn_of {l n : Nat} {P : Program} {o : Oper} {a : Act} {w : World} {K : Act → World → Prop} {Q : Exit → Act → World → Prop} (hnd : ∀ c, o.op ≠ .defer c) (h : o.wp P a w K Q) : o.wpIn (WR l) n P a w K Q := by
 unfold Oper.wp at h
 unfold Oper.wpIn
 refine ⟨fun f _ => trivial, ?_⟩
 rw [show (WR l).round = some l from rfl, Oper.semAt_some l _ _ hnd]
 generalize (execOp a.eval o).run P w = r at *
 cases r with
 | ok x w' =>
  cases x with
  | value v => exact h
  | skip => exact h
  | defer d => exact h
  | enter f args => exact ⟨(fun hd => by cases hd), ((callsIn_wide (n := n - 1)).2 h).inRound l⟩
  | row row args => exact ⟨(fun hd => by cases hd), rowsW h⟩
  | _ => exact h.elim
 | halt x w' =>
  cases x with
  | panic v => exact h
  | _ => exact h.elim
def ndOp (o : Oper) : Bool := match o.op with | .defer _ => false | _ => true
theorem nd_of {os : List Oper} (h : os.all ndOp = true) : ∀ o ∈ os, ∀ c, o.op ≠ .defer c := by
 intro o ho c e
 have := List.all_eq_true.1 h o ho
 unfold ndOp at this
 rw [e] at this
 cases this
/-- what is no cells from B on lies as it lay -/
def KF (B : Nat) (W W' : World) : Prop := KeepsFrom B W W'
theorem KF.refl (B : Nat) (W : World) : KF B W W := KeepsFrom.refl B W
theorem KF.lt {B : Nat} {W W' : World} (h : KF B W W') : W.heap.size ≤ W'.heap.size := h.size
theorem KF.below {B : Nat} {W W1 W2 : World} (h : KF B W W1) (hb : Below W1.heap.size W1 W2) (_ : W.heap.size ≤ W1.heap.size) : KF B W W2 :=
 KeepsFrom.trans h ⟨hb.size, fun k _ _ hk _ => (hb.block k (Array.getElem?_eq_some_iff.1 hk).1).trans hk⟩
theorem KF.zw {B : Nat} {W W1 W2 : World} (h : KF B W W1) (hb : Below W1.heap.size W1 W2) : KF B W W2 := KF.below h hb (KF.lt h)
theorem KF.alloc {B : Nat} {W W1 : World} (h : KF B W W1) (o : Obj) : KF B W (W1.alloc o) := h.below (zal _ _) h.size
theorem KF.drew {B : Nat} {W W1 : World} (h : KF B W W1) : KF B W W1.drew := ⟨h.size, h.same⟩
theorem KF.rowOther {B : Nat} {W W1 : World} (h : KF B W W1) {k : Nat} {cs : Array Value} (e : k < B ∨ W.heap.size ≤ k) : KF B W (W1.setRow k cs) :=
 ⟨by simpa [World.setRow] using h.size, fun j o hB hj ho => by
  have hlt := (Array.getElem?_eq_some_iff.1 hj).1
  rw [setRow_other _ _ _ _ (by omega)]
  exact h.same j o hB hj ho⟩
theorem KF.grown {B : Nat} {W W1 W2 : World} {row : Option Nat} (h : KF B W W1) (hg : W1.grownBy W2 row) (hr : ∀ r, row = some r → ∃ cur t f, W1.heap[r]? = some (.cells cur t f)) : KF B W W2 :=
 KeepsFrom.trans h ⟨hg.size, fun k o _ hk ho => (hg.block k (Array.getElem?_eq_some_iff.1 hk).1 (fun e => by
  obtain ⟨cur, t, f, hc⟩ := hr k e.symm
  rw [hk] at hc; cases hc; cases ho)).trans hk⟩
/-- the block for deferred calls -/
def DF (W : World) (D : Nat) : Prop := W.heap[D]? = some (.deferred (some []))
theorem DF.lt {W : World} {D : Nat} (h : DF W D) : D < W.heap.size := (Array.getElem?_eq_some_iff.1 h).1
theorem DF.of {W W' : World} {D : Nat} (h : DF W D) (e : W'.heap[D]? = W.heap[D]?) : DF W' D := by unfold DF at *; rw [e]; exact h
theorem DF.below {W W' : World} {B D : Nat} (h : DF W D) (hb : Below B W W') (e : D < B) : DF W' D := h.of (hb.block D e)
theorem DF.zw {W W' : World} {D : Nat} (h : DF W D) (hb : Below W.heap.size W W') : DF W' D := DF.below h hb (DF.lt h)
theorem DF.alloc {W : World} {D : Nat} (h : DF W D) (o : Obj) : DF (W.alloc o) D := h.below (zal _ _) h.lt
theorem DF.drew {W : World} {D : Nat} (h : DF W D) : DF W.drew D := h
theorem DF.rowOther {W : World} {D k : Nat} {cs : Array Value} (h : DF W D) (e : D ≠ k) : DF (W.setRow k cs) D := h.of (setRow_other _ _ _ _ e)
theorem DF.grown {W W1 : World} {D : Nat} {row : Option Nat} (h : DF W D) (hg : W.grownBy W1 row) (hr : ∀ r, row = some r → ∃ cur t f, W.heap[r]? = some (.cells cur t f)) : DF W1 D :=
 h.of (hg.block D h.lt (fun e => by
  obtain ⟨cur, t, f, hc⟩ := hr D e.symm
  unfold DF at h
  rw [h] at hc; cases hc))
theorem listIn_of {l n : Nat} {P : Program} {ops : Array Oper} {Q : Exit → Act → World → Prop} (hQ : ∀ a w, ¬ Q .outgrown a w) : ∀ (rest : List Oper) (a : Act) (w : World), (∀ o ∈ rest, ∀ c, o.op ≠ .defer c) → wpList P ops Q rest a w → wpListIn (WR l) n P ops Q rest a w
 | [], _, _, _, h => h
 | o :: rest, a, w, hnd, h => by
  unfold wpList at h
  unfold wpListIn
  by_cases hw : Region.wanted o (yielded ops a.tmps) = true
  · rw [if_pos hw] at h ⊢
    rcases h with h | ⟨_, a', w', h⟩
    · exact Oper.wpIn_mono (fun a w hr => listIn_of hQ rest a w (fun o ho => hnd o (by simp [ho])) hr) (operIn_of (hnd o (by simp)) h)
    · exact absurd h (hQ a' w')
  · rw [if_neg hw] at h ⊢
    exact ⟨fun f _ => trivial, listIn_of hQ rest _ w (fun o ho => hnd o (by simp [ho])) h⟩
theorem regionIn_of {l n : Nat} {P : Program} {id : Nat} {os : List Oper} {Q : Exit → Act → World → Prop} {a : Act} {w : World} (hnd : ∀ o ∈ os, ∀ c, o.op ≠ .defer c) (hQ : ∀ a w, ¬ Q .outgrown a w) (h : wpList P os.toArray Q os a w) :
 (Code.region id os.toArray false).wpIn (WR l) n P Q a w := wpIn_region_list (by simpa using listIn_of hQ os a w hnd h)
end Go.Proofs.Ytoncepgcfifgbaa
end
section
namespace Go.Proofs.Ytoncepgcfifgbaa
open Go Go.RowKit Go.Shelf
set_option linter.unusedVariables false
set_option linter.unusedSimpArgs false
attribute [local go_sem] Oper.semAt_some
/-- what numbered hands back -/
def NumF (p a b : Nat) (w : World) (e : Ending) (w' : World) : Prop := ∃ ba bb bp, e = .returned (.func (.func 177) #[] #[.pointer (some ⟨ba, 0, none⟩), .pointer (some ⟨bb, 0, none⟩), .pointer (some ⟨bp, 0, none⟩)]) ∧ w.heap.size ≤ ba ∧ w.heap.size ≤ bb ∧ w.heap.size ≤ bp ∧ One w' ba 2 (.int .i64 (a : Int)) ∧ One w' bb 2 (.int .i64 (b : Int)) ∧ One w' bp 2 (.int .i64 (p : Int)) ∧ Below w.heap.size w w'
set_option maxRecDepth 100000 in
theorem numbered_any (p a b : Nat) (w : World) : Calls Try.prog 154 #[.int .i64 (p : Int), .int .i64 (a : Int), .int .i64 (b : Int)] w (NumF p a b w) := by
 have hmf : ∀ (fn : Fn) (first cap : Array Value) (w : World), (Instr.makeFunc fn first cap).run Try.prog w = .ok (.func fn first cap) w := fun _ _ _ _ => rfl
 go_enter Try.func154, Try.ntmps154
 go_wp2_with fail
 go_ret
 refine ⟨_, _, _, rfl, by first | omega | simp, by first | omega | (simp; done) | (simp; omega), Nat.le_refl _, ?_, ?_, ?_, (((Below.refl _ _).alloc (Nat.le_refl _) _).alloc (by simp) _).alloc (by simp; omega) _⟩
 · have := (One.new (w.alloc (.cells #[.int .i64 (p : Int)] 2)) 2 (.int .i64 (a : Int))).alloc (.cells #[.int .i64 (b : Int)] 2)
   simpa using this
 · have := One.new ((w.alloc (.cells #[.int .i64 (p : Int)] 2)).alloc (.cells #[.int .i64 (a : Int)] 2)) 2 (.int .i64 (b : Int))
   simpa using this
 · exact ((One.new w 2 _).alloc _).alloc _
set_option maxRecDepth 100000 in
theorem monics_any (p n : Nat) (w : World) (hp1 : 2 ≤ p) (hp2 : p ≤ 7) (hn : n ≤ 12) : Calls Try.prog 109 #[.int .i64 (p : Int), .int .i64 (n : Int)] w (NumF p (p ^ n) (p ^ n + p ^ n) w) := by
 obtain ⟨q, hq⟩ : ∃ q, q = p ^ n := ⟨_, rfl⟩
 have hq1 : q ≤ 13841287201 := by
  rw [hq]
  have h1 : p ^ n ≤ 7 ^ n := Nat.pow_le_pow_left hp2 n
  have h2 : 7 ^ n ≤ 7 ^ 12 := Nat.pow_le_pow_right (by decide) hn
  have h3 : (7 : Nat) ^ 12 = 13841287201 := by decide
  omega
 have HNM := Lib.hid (fun W => norm_any p n W hp1 hp2 (by omega))
 rw [← hq] at HNM ⊢
 have HNB := Lib.hid (fun W => numbered_any p q (q + q) W)
 have H2 := Lib.hid (show (2 : Int) * (q : Int) = ((q + q : Nat) : Int) by omega)
 clear hq
 go_enter Try.func109, Try.ntmps109
 go_wp2_with (first | (go_at_call 108; refine (HNM.out _).mono ?_; rintro e w2 ⟨rfl, rfl⟩) | (go_at_call 154; rw [H2.out]; refine (HNB.out _).mono ?_; rintro e w2 ⟨ba, bb, bp, rfl, r1, r2, r3, C0, C1, C2, hB⟩))
 go_ret
 exact ⟨ba, bb, bp, rfl, r1, r2, r3, C0, C1, C2, hB⟩
/-- the numbers from a on, k of them -/
abbrev NumN (a k : Nat) := { N : Nat // N ∈ List.range' a k }
/-- a monic polynomial's number -/
abbrev MonN (p n : Nat) := NumN (p ^ n) (p ^ n)
def vals {a k : Nat} (l : List (NumN a k)) : List Nat := l.map (·.1)
theorem vals_nil {a k : Nat} : vals ([] : List (NumN a k)) = [] := rfl
theorem vals_snoc {a k : Nat} (l : List (NumN a k)) (x : NumN a k) : vals (l ++ [x]) = vals l ++ [x.1] := by simp [vals]
theorem vals_len {a k : Nat} (l : List (NumN a k)) : (vals l).length = l.length := by simp [vals]
def numEnc (p a k : Nat) (x : NumN a k) : Array Value := #[.agg (zb 64 (ofN p x.1))]
/-- the captured cells stay -/
def KpN (ba bb bp : Nat) (W W' : World) : Prop := W'.heap[ba]? = W.heap[ba]? ∧ W'.heap[bb]? = W.heap[bb]? ∧ W'.heap[bp]? = W.heap[bp]?
theorem KpN.refl (ba bb bp : Nat) (W : World) : KpN ba bb bp W W := ⟨rfl, rfl, rfl⟩
theorem KpN.trans {ba bb bp : Nat} {A B C : World} (h : KpN ba bb bp A B) (k : KpN ba bb bp B C) : KpN ba bb bp A C := ⟨k.1.trans h.1, k.2.1.trans h.2.1, k.2.2.trans h.2.2⟩
theorem KpN.put {ba bb bp : Nat} {w : World} (h0 : ba < w.heap.size) (h1 : bb < w.heap.size) (h2 : bp < w.heap.size) (W : World) (l : Nat) (o o' : Obj) (hl : w.heap.size ≤ l) (_ : W.heap[l]? = some o) (_ : o.isCells = false) (_ : o.isWalk = false) : KpN ba bb bp W (W.putObj l o') :=
 ⟨World.putObj_heap_other (by omega), World.putObj_heap_other (by omega), World.putObj_heap_other (by omega)⟩
theorem One.same {w w' : World} {b : Nat} {t : TypeId} {v : Value} (h : One w b t v) (h' : One w' b t v) : w'.heap[b]? = w.heap[b]? := by unfold One at *; rw [h, h']
theorem range_snoc (a k : Nat) : List.range' a (k + 1) = List.range' a k ++ [a + k] := by
 rw [List.range'_concat]; simp
theorem mon_bound {p n : Nat} (hp2 : p ≤ 7) (hn : n ≤ 12) : p ^ n ≤ 13841287201 := by
 have h1 : p ^ n ≤ 7 ^ n := Nat.pow_le_pow_left hp2 n
 have h2 : 7 ^ n ≤ 7 ^ 12 := Nat.pow_le_pow_right (by decide) hn
 have h3 : (7 : Nat) ^ 12 = 13841287201 := by decide
 omega
theorem below_grown {w w' : World} (h : Below w.heap.size w w') : w.grownBy w' none := ⟨h.os, h.tape, h.output, h.size, fun k hk _ => h.block k hk⟩
set_option maxRecDepth 100000 in
set_option maxHeartbeats 1600000 in
theorem numbered1_stops (m p a q : Nat) (hp1 : 2 ≤ p) (hp2 : p ≤ 7) (ha : a ≤ 13841287201) (hq : q ≤ 13841287201) (ba bb bp : Nat) (w : World) (B0 : One w ba 2 (.int .i64 (a : Int))) (B1 : One w bb 2 (.int .i64 ((a + q : Nat) : Int))) (B2 : One w bp 2 (.int .i64 (p : Int))) :
 SeqStopsK Fence.wide m Try.prog 177 #[.pointer (some ⟨ba, 0, none⟩), .pointer (some ⟨bb, 0, none⟩), .pointer (some ⟨bp, 0, none⟩)] (numEnc p a q) (KpN ba bb bp) (fun ys => vals ys = List.range' a q) (fun pre => vals pre <+: List.range' a q) q w := by
 intro l J Jx W hW hJ hJx hY h0
 have C0 := (B0.zw hW)
 have C1 := (B1.zw hW)
 have C2 := (B2.zw hW)
 have c0 := C0.cell
 have c1 := C1.cell
 have c2 := C2.cell
 have HY := Lib.hid hY
 clear hY
 refine callsIn_of_wp Try.func177 rfl trivial ?_ rfl
 simp only [Try.ntmps177, List.size_toArray, List.length_cons, List.length_nil, Nat.reduceAdd, Nat.reduceSub, Array.replicate_succ, Array.replicate_zero, List.push_toArray, List.append_toArray, List.nil_append, List.cons_append]
 gi_wp2
 gi_loopw [5] (fun i wr => ∃ (k : Nat) (pre : List (NumN a q)), k ≤ q ∧ i = .int .i64 ((a : Int) + (k : Int)) ∧ Hid (vals pre = List.range' a k) ∧ J pre wr ∧ KpN ba bb bp W wr) (fun i _ => a + q - (intOf i).toNat)
 case atStart => exact ⟨0, [], Nat.zero_le _, by simp, Lib.hid vals_nil, h0, KpN.refl _ _ _ _⟩
 case round =>
  obtain ⟨k, pre, hk, rfl, hpre, hJs, hnx⟩ := hrel
  have C0' := C0.of hnx.1
  have C1' := C1.of hnx.2.1
  have C2' := C2.of hnx.2.2
  have c1' := C1'.cell
  have c2' := C2'.cell
  by_cases hlt : k < q
  · have hlt2 : (a : Int) + (k : Int) < ((a + q : Nat) : Int) := by omega
    have hnum : ((a + k : Nat) : Int) ≤ 1000000000000 := by omega
    have HM := Lib.hid (show a + k ∈ List.range' a q by rw [List.mem_range'_1]; omega)
    gi_wp2_with (first | (refine ⟨trivial, (fun h => by cases h), ?_⟩; gi_at_call 102; refine (callsIn_wide.2 (polyOfNumber_any p (a + k) _ hp1 hp2 hnum)).mono ?_; rintro e w2 ⟨rfl, hb2⟩; have hJ2 := hJ _ _ _ none hJs (below_grown hb2) (fun r e => by cases e); obtain ⟨fn, tmps, assign, body, hy, hR⟩ := HY.out pre ⟨a + k, HM.out⟩ w2 hJ2 (by have := congrArg List.length hpre.out; rw [vals_len, List.length_range'] at this; omega); unfold numEnc at hy; dsimp only at hy))
    refine ⟨(fun h => by cases h), hR.mono ?_⟩
    rintro e W3 (⟨rfl, hJ3, hk3⟩ | ⟨rfl, hJx3⟩)
    · gi_wp2
      go_roundw
      case rel => exact ⟨k + 1, pre ++ [⟨a + k, HM.out⟩], by omega, by go_num, Lib.hid (by rw [vals_snoc, hpre.out, range_snoc]), hJ3, (hnx.trans ⟨hb2.block _ C0'.lt, hb2.block _ C1'.lt, hb2.block _ C2'.lt⟩).trans hk3⟩
      case measure => simp [intOf]; omega
    · gi_wp2
      refine bodyPost_ret (results_none rfl _ _ _) rfl ?_
      refine ⟨⟨_, rfl⟩, .inr ⟨_, ?_, hJx3⟩⟩
      rw [vals_snoc, hpre.out]
      show List.range' a k ++ [a + k] <+: List.range' a q
      rw [← range_snoc]
      exact ⟨List.range' (a + (k + 1)) (q - (k + 1)), by rw [List.range'_append_1]; congr 1; omega⟩
  · have hlt2 : ¬ (a : Int) + (k : Int) < ((a + q : Nat) : Int) := by omega
    gi_wp2
    go_end0
    exact ⟨⟨_, rfl⟩, .inl ⟨pre, by rw [hpre.out, show k = q by omega], hJs⟩⟩
end Go.Proofs.Ytoncepgcfifgbaa
end
section
namespace Go.Proofs.Ytoncepgcfifgbaa
open Go Go.RowKit
set_option linter.unusedVariables false
set_option linter.unusedSimpArgs false
attribute [local irreducible] deg invN dS qS stp stpr quoP resP oneP ofN dvo run bzD bzU bzW subP monL
/-- the cells of a factor -/
def facC (f : Nat → Nat) (k : Nat) : List Value := bl 64 f ++ [.int .i64 (k : Int)]
def facRows (p : Nat) (L : List (Nat × Nat)) : List (List Value) := L.map fun x => facC (ofN p x.1) x.2
/-- the heap has at least n blocks -/
def SzG (n : Nat) (W : World) : Prop := n ≤ W.heap.size
theorem SzG.lt {n : Nat} {W : World} (h : SzG n W) : n ≤ W.heap.size := h
theorem SzG.below {n B : Nat} {W W' : World} (h : SzG n W) (hb : Below B W W') (_ : n ≤ W.heap.size) : SzG n W' := Nat.le_trans h hb.size
theorem SzG.zw {n : Nat} {W W' : World} (h : SzG n W) (hb : Below W.heap.size W W') : SzG n W' := SzG.below h hb (SzG.lt h)
theorem SzG.alloc {n : Nat} {W : World} (h : SzG n W) (o : Obj) : SzG n (W.alloc o) := h.below (zal _ _) h
theorem SzG.drew {n : Nat} {W : World} (h : SzG n W) : SzG n W.drew := h
theorem SzG.rowOther {n k : Nat} {W : World} {cs : Array Value} (h : SzG n W) (_ : 0 ≤ k) : SzG n (W.setRow k cs) := by unfold SzG at *; simpa [World.setRow] using h
theorem SzG.setOther {n : Nat} {W : World} {a : Addr} {v : Value} (h : SzG n W) (_ : 0 ≤ a.block) : SzG n (W.setCell a v) := by unfold SzG at *; simpa using h
end Go.Proofs.Ytoncepgcfifgbaa
namespace Go.Proofs.Ytoncepgcfifgbaa
open Go.RowKit
section
variable {P : Program} {Q : Exit → Act → World → Prop}
/-- what is asked of operation i, wanted or not -/
def StepG (P : Program) (ops : Array Oper) (Q : Exit → Act → World → Prop) (F : (Nat → Value) → Act) (Ψ : (Nat → Bool) → (Nat → Value) → World → Prop) (i : Nat) (o : Oper) : Prop :=
 ∀ (L : Nat → Bool) (v : Nat → Value) (w : World), (∀ e, e ∈ o.after → Region.binds .any e = true → L e.on = true) →
  (∀ j p, ops[j]? = some p → L j = true → ∀ e, e ∈ p.after → Region.binds .any e = true → e.on ≠ i) → Ψ L v w →
  ∀ K : Act → World → Prop, (∀ a' y w', a' = (F v).put o.dst y → Ψ (setL L i) (updV v i y) w' → K a' w') →
   if Region.wanted o (yielded ops (F v).tmps) = true then Oper.wp P o (F v) w K Q else K ((F v).put o.dst undef) w
inductive StepsG (P : Program) (ops : Array Oper) (Q : Exit → Act → World → Prop) (F : (Nat → Value) → Act) (Ψ : (Nat → Bool) → (Nat → Value) → World → Prop) : List Oper → Nat → Prop
 | nil (k : Nat) : StepsG P ops Q F Ψ [] k
 | cons {o : Oper} {os : List Oper} {k : Nat} (h : StepG P ops Q F Ψ k o) (hs : StepsG P ops Q F Ψ os (k + 1)) : StepsG P ops Q F Ψ (o :: os) k
theorem stepsG_of {ops : Array Oper} {F : (Nat → Value) → Act} {Ψ : (Nat → Bool) → (Nat → Value) → World → Prop} : ∀ (os : List Oper) (k : Nat), StepsG P ops Q F Ψ os k → ∀ i o, os[i]? = some o → StepG P ops Q F Ψ (k + i) o
 | [], _, _, _, _, h => by simp at h
 | p :: os, k, hs, 0, o, h => by
  simp only [List.getElem?_cons_zero, Option.some.injEq] at h
  subst h
  cases hs with
  | cons h _ => exact h
 | p :: os, k, hs, i + 1, o, h => by
  cases hs with
  | cons _ hs =>
   have := stepsG_of os (k + 1) hs i o (by simpa using h)
   rwa [show k + 1 + i = k + (i + 1) by omega] at this
theorem wp_region_stepsG {os : List Oper} {id : Nat} {a0 : Act} {w : World} (hm : P.follows .mixedOrders = true) (hd : dstsOkL os = true) (he : edgesOk os.toArray = true)
 {F : (Nat → Value) → Act} (hF : ∀ v, frL a0 os 0 v = F v)
 (Ψ : (Nat → Bool) → (Nat → Value) → World → Prop) (h0 : ∀ v, (∀ i, v i = ((os[i]?.bind (·.dst)).map fun t => a0.tmps.getD t undef).getD undef) → Ψ (fun _ => false) v w.drew)
 (hstep : StepsG P os.toArray Q F Ψ os 0)
 (hend : ∀ L v w, (∀ i, i < os.length → L i = true) → Ψ L v w → Q .normal (F v) w) : (Code.region id os.toArray true).wp P Q a0 w := by
 refine wp_region_psi0 hm (by simpa using hd) he Ψ (fun v hv => h0 v (by simpa using hv)) (fun i o ho => ?_) (fun L v w hL hΨ => ?_)
 · have hs := stepsG_of _ _ hstep i o (by simpa using ho)
   rw [Nat.zero_add] at hs
   intro L v w h1 h2 h3 K hK
   have hf : fr a0 os.toArray v = F v := hF v
   rw [hf] at hK ⊢
   exact hs L v w h1 h2 h3 K hK
 · have hf : fr a0 os.toArray v = F v := hF v
   rw [hf]
   exact hend L v w (by simpa using hL) hΨ
end
end Go.Proofs.Ytoncepgcfifgbaa
namespace Go.Proofs.Ytoncepgcfifgbaa
open Go Go.RowKit
set_option linter.unusedVariables false
set_option linter.unusedSimpArgs false
attribute [local irreducible] deg invN dS qS stp stpr quoP resP oneP ofN dvo run bzD bzU bzW subP monL monB
def FV (p : Nat) (n0 : Nat) (x : Nat × Nat) (l : List (Nat × Nat)) (y : Value) (w : World) : Prop := SlL w n0 100 65 y (facRows p (x :: l))
theorem FV.below {p n0 : Nat} {x : Nat × Nat} {l : List (Nat × Nat)} {y : Value} {w w' : World} (h : FV p n0 x l y w) (hb : Below w.heap.size w w') : FV p n0 x l y w' := SlL.below h hb h.lt
end Go.Proofs.Ytoncepgcfifgbaa
end
section
namespace Go.Proofs.Ytoncepgcfifgbaa
open Go Go.RowKit
set_option linter.unusedVariables false
/-- the blocks of w, those of S aside, are in w' as they were -/
def Kx (S : List Nat) (w w' : World) : Prop := w.heap.size ≤ w'.heap.size ∧ ∀ b, b < w.heap.size → b ∉ S → w'.heap[b]? = w.heap[b]?
theorem Kx.start (S : List Nat) (w : World) : Kx S w w.drew := ⟨Nat.le_refl _, fun _ _ _ => rfl⟩
theorem Kx.below {S : List Nat} {w w1 w2 : World} (h : Kx S w w1) (hy : Below w1.heap.size w1 w2) : Kx S w w2 :=
 ⟨Nat.le_trans h.1 hy.size, fun b hb hs => (hy.block b (Nat.lt_of_lt_of_le hb h.1)).trans (h.2 b hb hs)⟩
theorem Kx.alloc {S : List Nat} {w w1 : World} (h : Kx S w w1) (o : Obj) : Kx S w (w1.alloc o) := h.below (zal _ _)
theorem Kx.row {S : List Nat} {w w1 : World} (h : Kx S w w1) {s : Nat} (hs : s ∈ S) (cs : Array Value) : Kx S w (w1.setRow s cs) :=
 ⟨by simpa [World.setRow] using h.1, fun b hb hn => by rw [setRow_other _ _ _ _ (fun e => hn (by rw [e]; exact hs))]; exact h.2 b hb hn⟩
theorem Blk.kx {S : List Nat} {w w' : World} {b n : Nat} {t : TypeId} {f : Nat → Nat} (h : Blk w b n t f) (hX : Kx S w w') (hn : b ∉ S) : Blk w' b n t f := by
 have hl := h.lt
 unfold Blk at *; rw [hX.2 b hl hn]; exact h
theorem Row.kx {S : List Nat} {w w' : World} {b : Nat} {t : TypeId} {cs : Array Value} (h : Row w b t cs) (hX : Kx S w w') (hn : b ∉ S) : Row w' b t cs := h.of (hX.2 b h.lt hn)
theorem One.kx {S : List Nat} {w w' : World} {b : Nat} {t : TypeId} {v : Value} (h : One w b t v) (hX : Kx S w w') (hn : b ∉ S) : One w' b t v := h.of (hX.2 b h.lt hn)
end Go.Proofs.Ytoncepgcfifgbaa
end
section
namespace Go.Proofs.Ytoncepgcfifgbaa
open Go Go.RowKit
set_option linter.unusedVariables false
/-- a prime with a polynomial -/
def fdC (p : Int) (m : Nat → Nat) : List Value := .int .i64 p :: bl 64 m
theorem fdC_len (p : Int) (m : Nat → Nat) : (fdC p m).length = 65 := by simp [fdC, bl]
theorem fdC_at (p : Int) (m : Nat → Nat) : (fdC p m).toArray[0]? = some (.int .i64 p) := by simp [fdC]
theorem Row.fd {w : World} {b : Nat} {t : TypeId} {p : Int} {m : Nat → Nat} (h : Row w b t (fdC p m).toArray) : w.rangeAt b 1 (bl 64 m) := by
 intro j v hv
 have := h.range (j + 1) v (by unfold fdC; simpa using hv)
 rw [Nat.zero_add] at this
 rw [Nat.add_comm]; exact this
end Go.Proofs.Ytoncepgcfifgbaa
end
section
namespace Go.Proofs.Ytoncepgcfifgbaa
open Go Go.RowKit
set_option linter.unusedVariables false
section
variable {P : Program}
theorem wp_load_rowc {o : Oper} {a : Act} {w : World} {K : Act → World → Prop} {Q : Exit → Act → World → Prop} (ty : TypeId) (x : Operand) (ho : o.op = .load ty x)
 (b i : Nat) (hx : a.eval x = .pointer (some ⟨b, i, none⟩)) (t : TypeId) (cs : Array Value) (hb : Row w b t cs) (v : Value) (hi : cs[i]? = some v) (d : TypeDesc)
 (hu : P.underlying ty = some d) (hd : (match d with | .struct _ | .array _ _ => true | _ => false) = false) (h : K (a.put o.dst v) w) : o.wp P a w K Q := by
 have hc := hb.cell hi
 have hagg : (isAgg ty).run P w = .ok false w := by
  unfold isAgg
  rw [Sem.run_bind, run_underlying hu w]
  cases d <;> simp_all
 unfold Oper.wp execOp
 simp only [ho, hx, Instr.loadAt, Instr.sureAddr, Sem.run_bind, Sem.run_pure, Result.andThen_ok, loadVar, hagg, Bool.false_eq_true, if_false, Sem.run_ite, run_load, hc]
 exact h
theorem wpList_load_rowc {ops : Array Oper} {rest : List Oper} {o : Oper} {a : Act} {w : World} {Q : Exit → Act → World → Prop} (hgd : o.guard = none) (ty : TypeId) (x : Operand) (ho : o.op = .load ty x)
 (b i : Nat) (hx : a.eval x = .pointer (some ⟨b, i, none⟩)) (t : TypeId) (cs : Array Value) (hb : Row w b t cs) (v : Value) (hi : cs[i]? = some v) (d : TypeDesc)
 (hu : P.underlying ty = some d) (hd : (match d with | .struct _ | .array _ _ => true | _ => false) = false) (h : wpList P ops Q rest (a.put o.dst v) w) : wpList P ops Q (o :: rest) a w :=
 wpList_plain hgd fun _ hK => wp_load_rowc ty x ho b i hx t cs hb v hi d hu hd (hK _ _ h)
theorem wp_store_rowv {o : Oper} {a : Act} {w : World} {K : Act → World → Prop} {Q : Exit → Act → World → Prop} (ty : TypeId) (x y : Operand) (ho : o.op = .store ty x y)
 (b : Nat) (hx : a.eval x = .pointer (some ⟨b, 0, none⟩)) (xs : Array Value) (hy : a.eval y = .agg xs) (t : TypeId) (cs : Array Value) (hb : Row w b t cs) (n : Nat) (hi : (P.info? ty).map (·.size) = some n) (hn : cs.size = n) (hm : xs.size = n) (h1 : xs.all (·.oneCell') = true)
 (h : K (a.put o.dst undef) (w.setRow b xs)) : o.wp P a w K Q := by
 have hb' : w.heap[b]? = some (.cells cs t (0, 0)) := by unfold Row at hb; exact hb
 exact wp_store_row ty x y ho b xs hx hy t cs hb' (by rw [hi, hm]) (by rw [hn, hm]) h1 h
end
/-- y points to a row from N on -/
def PR (y : Value) (w : World) (N : Nat) (t : TypeId) (cs : Array Value) : Prop := ∃ b, y = .pointer (some ⟨b, 0, none⟩) ∧ N ≤ b ∧ Row w b t cs
def AR (y : Value) (w : World) (N n : Nat) (t : TypeId) : Prop := ∃ cs : Array Value, cs.size = n ∧ PR y w N t cs
theorem PR.belowR {y : Value} {w w' : World} {N : Nat} {t : TypeId} {cs : Array Value} (h : PR y w N t cs) (hb : Below w.heap.size w w') : PR y w' N t cs := by
 obtain ⟨b, e, hN, hk⟩ := h
 exact ⟨b, e, hN, hk.zw hb⟩
theorem AR.belowR {y : Value} {w w' : World} {N n : Nat} {t : TypeId} (h : AR y w N n t) (hb : Below w.heap.size w w') : AR y w' N n t := by
 obtain ⟨cs, hs, h⟩ := h
 exact ⟨cs, hs, h.belowR hb⟩
theorem PR.ar {y : Value} {w : World} {N n : Nat} {t : TypeId} {cs : Array Value} (h : PR y w N t cs) (hs : cs.size = n) : AR y w N n t := ⟨cs, hs, h⟩
theorem PR.newR (w : World) {N : Nat} (t : TypeId) (cs : Array Value) (h : N ≤ w.heap.size) : PR (.pointer (some ⟨w.heap.size, 0, none⟩)) (w.alloc (.cells cs t)) N t cs := ⟨_, rfl, h, Row.new _ _ _⟩
theorem PR.rowR {w : World} {b N : Nat} {t : TypeId} {cs : Array Value} (hb : Row w b t cs) (hN : N ≤ b) (xs : Array Value) : PR (.pointer (some ⟨b, 0, none⟩)) (w.setRow b xs) N t xs := ⟨b, rfl, hN, hb.row xs⟩
theorem AR.rowR {y : Value} {w : World} {b N n : Nat} {t u : TypeId} {cs : Array Value} (h : AR y w N n t) (hb : Row w b u cs) (xs : Array Value) (hx : xs.size = n) : AR y (w.setRow b xs) N n t := by
 obtain ⟨cs', hs, b', e', hN, hk⟩ := h
 by_cases e : b' = b
 · subst e
   exact ⟨xs, hx, b', e', hN, hk.row xs⟩
 · exact ⟨cs', hs, b', e', hN, hk.rowOther e⟩
theorem PR.outR {y : Value} {w : World} {N : Nat} {t : TypeId} {cs : Array Value} (h : PR y w N t cs) : ∃ b, y = .pointer (some ⟨b, 0, none⟩) ∧ N ≤ b ∧ Row w b t cs := h
theorem AR.outR {y : Value} {w : World} {N n : Nat} {t : TypeId} (h : AR y w N n t) : ∃ cs b, y = .pointer (some ⟨b, 0, none⟩) ∧ N ≤ b ∧ cs.size = n ∧ Row w b t cs := by
 obtain ⟨cs, hs, b, e, hN, hk⟩ := h
 exact ⟨cs, b, e, hN, hs, hk⟩
attribute [irreducible] PR AR
end Go.Proofs.Ytoncepgcfifgbaa
end
section
set_option linter.unusedVariables false
namespace Go.Proofs.Ytoncepgcfifgbaa
open Rg
section
variable {p : Nat} {m : Nat → Int}
theorem res_char : nm p (e : Res p m) = o := by
 rw [nm_cl]
 exact cl_eq.2 (rm_of_cg fun k => by
  unfold zS
  split
  · exact ⟨1, by omega⟩
  · exact ⟨0, by omega⟩)
/-- the class of a polynomial -/
def rs (f : Nat → Nat) : Res p m := cl (lz f) (fin_lz f)
theorem rs_prd {f g : Nat → Nat} (hp : 0 < p) (h : deg f + deg g ≤ 63) : (rs (prd p f g) : Res p m) = rs f * rs g := cl_eq.2 (rm_of_cg (prd_cg hp h))
end
theorem rs_list {p : Nat} {m : Nat → Int} (f : Nat → Nat) : (rs f : Res p m) = pe ((List.range 64).map f) tt := by
 rw [pe_cl]
 refine cl_congr ?_
 funext k; unfold lz cut ser
 by_cases h : k < 64
 · simp [h]
 · simp [h]
end Go.Proofs.Ytoncepgcfifgbaa
end
section
namespace Go.Proofs.Ytoncepgcfifgbaa
open Go Go.RowKit
set_option linter.unusedVariables false
set_option linter.unusedSimpArgs false
theorem wp_load_rowv {P : Program} {o : Oper} {a : Act} {w : World} {K : Act → World → Prop} {Q : Exit → Act → World → Prop} (ty : TypeId) (x : Operand) (ho : o.op = .load ty x)
 (b : Nat) (hx : a.eval x = .pointer (some ⟨b, 0, none⟩)) (t : TypeId) (cs : Array Value) (hb : Row w b t cs) (d : TypeDesc)
 (hu : P.underlying ty = some d) (hd : (match d with | .struct _ | .array _ _ => true | _ => false) = true) (n : Nat) (hi : (P.info? ty).map (·.size) = some n) (hn : cs.size = n) (h : K (a.put o.dst (.agg cs)) w) : o.wp P a w K Q := by
 have hb' : w.heap[b]? = some (.cells cs t (0, 0)) := by unfold Row at hb; exact hb
 exact wp_load_row ty x ho b hx t _ (0, 0) d hb' hu hd (by rw [hi, hn]) h
theorem wpList_load_rowv_g {P : Program} {ops : Array Oper} {rest : List Oper} {o : Oper} {a : Act} {w : World} {Q : Exit → Act → World → Prop} (hw : Region.wanted o (yielded ops a.tmps) = true) (ty : TypeId) (x : Operand) (ho : o.op = .load ty x)
 (b : Nat) (hx : a.eval x = .pointer (some ⟨b, 0, none⟩)) (t : TypeId) (cs : Array Value) (hb : Row w b t cs) (d : TypeDesc)
 (hu : P.underlying ty = some d) (hd : (match d with | .struct _ | .array _ _ => true | _ => false) = true) (n : Nat) (hi : (P.info? ty).map (·.size) = some n) (hn : cs.size = n)
 (h : wpList P ops Q rest (a.put o.dst (.agg cs)) w) : wpList P ops Q (o :: rest) a w := by
 unfold wpList
 rw [if_pos hw]
 exact Or.inl (wp_load_rowv ty x ho b hx t cs hb d hu hd n hi hn h)
attribute [local irreducible] deg invN dS qS stp stpr quoP resP oneP addK
end Go.Proofs.Ytoncepgcfifgbaa
end
section
namespace Go.Proofs.Ytoncepgcfifgbaa
open Go Go.RowKit
set_option linter.unusedVariables false
set_option linter.unusedSimpArgs false
/-- two polynomials -/
def frC (A B : Nat → Nat) : List Value := bl 64 A ++ bl 64 B
theorem frC_len (A B : Nat → Nat) : (frC A B).length = 128 := by simp [frC, bl]
theorem frC_all (A B : Nat → Nat) : (frC A B).toArray.all (·.oneCell') = true := Array.all_eq_true_iff_forall_mem.2 fun u hu => by
 have hu' : u ∈ frC A B := by simpa using hu
 unfold frC at hu'
 have key : ∀ g : Nat → Nat, u ∈ bl 64 g → u.oneCell' = true := fun g h => by
  unfold bl at h
  obtain ⟨i, _, rfl⟩ := List.mem_map.1 h
  rfl
 rcases List.mem_append.1 hu' with h | h
 · exact key A h
 · exact key B h
theorem range_partF {w : World} {b : Nat} {t : TypeId} {pre c post : List Value} (h : Row w b t (pre ++ (c ++ post)).toArray) : w.rangeAt b pre.length c := by
 intro j v hv
 have := h.range (pre.length + j) v (by
  have hj : j < c.length := (List.getElem?_eq_some_iff.1 hv).1
  rw [List.getElem?_append_right (by omega), Nat.add_sub_cancel_left, List.getElem?_append_left hj]; exact hv)
 rwa [Nat.zero_add] at this
theorem Row.fra {w : World} {b : Nat} {t : TypeId} {A B : Nat → Nat} (h : Row w b t (frC A B).toArray) : w.rangeAt b 0 (bl 64 A) := range_partF (pre := []) (c := bl 64 A) (post := bl 64 B) h
theorem Row.frb {w : World} {b : Nat} {t : TypeId} {A B : Nat → Nat} (h : Row w b t (frC A B).toArray) : w.rangeAt b 64 (bl 64 B) := by
 have := range_partF (w := w) (b := b) (t := t) (pre := bl 64 A) (c := bl 64 B) (post := []) (by simpa [frC] using h)
 rwa [zl] at this
theorem Try.size55 : (Try.prog.info? 55).map (·.size) = some 128 := by kernel_rfl
theorem Try.elem55 : (Try.prog.info? 55).map (fun i => (i.size, i.zero.isSome)) = some (128, true) := by kernel_rfl
theorem frC_zero : (frC (fun _ => 0) (fun _ => 0)).toArray = Try.zeroCells55 := by unfold frC bl; kernel_rfl
theorem built_fr (A B : Nat → Nat) : Try.prog.built 55 [(0, .agg (zb 64 A)), (1, .agg (zb 64 B))] = some (frC A B).toArray := by unfold frC zb bl; kernel_rfl
theorem Try.size107 : (Try.prog.info? 107).map (·.size) = some 65 := by kernel_rfl
theorem built_cv (p : Int) (m : Nat → Nat) : Try.prog.built 107 [(0, .int .i64 p), (1, .agg (zb 64 m))] = some (fdC p m).toArray := by unfold fdC zb bl; kernel_rfl
end Go.Proofs.Ytoncepgcfifgbaa
end
section
namespace Go.Proofs.Ytoncepgcfifgbaa
open Rg
set_option linter.unusedVariables false
set_option linter.unusedSimpArgs false
attribute [local irreducible] deg invN quoP resP prd bzD bzU bzW
theorem rm_zS {p : Nat} {f g : Nat → Int} : rm p zS f g ↔ cg p f g := by
 constructor
 · rintro ⟨q, _, h⟩
   rw [mz_zS] at h
   intro k
   have := h k
   unfold sz zS at this
   rwa [Int.sub_zero] at this
 · exact rm_of_cg
theorem dv_pr {p : Nat} {m f : Nat → Nat} : dv p (lz m) (lz f) ↔ ∃ q : Res p zS, (rs f : Res p zS) = q * rs m := by
 rw [dv_ex]
 constructor
 · rintro ⟨q, hq, h⟩
   exact ⟨cl q hq, cl_eq.2 (rm_of_cg h)⟩
 · rintro ⟨q, h⟩
   revert h
   refine res_ind (P := fun q => (rs f : Res p zS) = q * rs m → ∃ q, fin q ∧ cg p (lz f) (mz q (lz m))) (fun q hq h => ⟨q, hq, by
    unfold rs at h
    exact rm_zS.1 (cl_eq.1 (h : (cl (lz f) (fin_lz f) : Res p zS) = cl (mz q (lz m)) (fin_mz hq (fin_lz m))))⟩) q
theorem rs_subP {p : Nat} {m : Nat → Int} {f g : Nat → Nat} (hg : ∀ k, k < 64 → g k < p) : (rs (subP p f g) : Res p m) + rs g = rs f := by
 have h : (rs (subP p f g) : Res p m) = rs f + -(rs g) := cl_eq.2 (rm_of_cg (subP_cg hg))
 rw [h, aassoc, nadd, addo]
theorem subP_at {p : Nat} {f g : Nat → Nat} (hp : 0 < p) (hg : ∀ k, k < 64 → g k < p) : ∀ k, k < 64 → addK p f g (-1) k = subP p f g k := fun k hk => addK_neg hp hg hk
/-- D less the square -/
def sqP (p : Nat) (D B : Nat → Nat) : Nat → Nat := subP p D (prd p B B)
theorem sqP_lt {p : Nat} {D B : Nat → Nat} (hp : 0 < p) (k : Nat) : sqP p D B k < p := subP_lt hp k
/-- a form -/
def fmI (p : Nat) (D A B : Nat → Nat) : Prop := (∀ k, k < 64 → A k < p) ∧ (∀ k, k < 64 → B k < p) ∧ (∃ n, mon A n ∧ n ≤ 12) ∧ deg B < deg A ∧ dv p (lz A) (lz (sqP p D B))
end Go.Proofs.Ytoncepgcfifgbaa
end
section
namespace Go.Proofs.Ytoncepgcfifgbaa
open Rg
set_option linter.unusedVariables false
set_option linter.unusedSimpArgs false
attribute [local irreducible] deg invN quoP resP prd bzD bzU bzW
theorem sqS_rs {p : Nat} {D B : Nat → Nat} (hp : 0 < p) (lD : ∀ k, k < 64 → D k < p) : (rs (addK p (prd p B B) D (-1)) : Res p zS) + rs (sqP p D B) = o := by
 have e : (rs (addK p (prd p B B) D (-1)) : Res p zS) = rs (subP p (prd p B B) D) := by
  unfold rs; exact cl_congr (lz_congr (subP_at hp lD))
 have h1 := rs_subP (p := p) (m := zS) (f := prd p B B) (g := D) lD
 have h2 := rs_subP (p := p) (m := zS) (f := D) (g := prd p B B) (fun k _ => prd_lt hp k)
 refine cancel (a := rs D) ?_
 rw [e, addo]
 have h3 : (rs D : Res p zS) + (rs (subP p (prd p B B) D) + rs (sqP p D B)) = rs (subP p (prd p B B) D) + rs D + rs (sqP p D B) := by simp only [acomm, aassoc, alcomm]
 rw [h3, h1, acomm]; exact h2
theorem dv_neg {p : Nat} {c f g : Nat → Nat} (h : (rs f : Res p zS) + rs g = o) (hd : dv p (lz c) (lz f)) : dv p (lz c) (lz g) := by
 obtain ⟨q, hq⟩ := dv_pr.1 hd
 refine dv_pr.2 ⟨-q, cancel (a := rs f) ?_⟩
 rw [h, hq, ← addm, acomm q, nadd, omul]
theorem has_same {p : Nat} {D A B : Nat → Nat} (hp : p = 2 ∨ p = 3 ∨ p = 5 ∨ p = 7) (lD : ∀ k, k < 64 → D k < p) (lA : ∀ k, k < 64 → A k < p) (h0 : 0 ≤ deg A) :
 deg (resP p (addK p (prd p B B) D (-1)) A) < 0 ↔ deg (resP p (sqP p D B) A) < 0 := by
 have hp0 : 0 < p := by omega
 rw [res_zero_iff hp (fun k _ => addK_lt hp0 k) lA h0, res_zero_iff hp (fun k _ => sqP_lt hp0 k) lA h0]
 have hS := sqS_rs (B := B) hp0 lD
 exact ⟨dv_neg hS, dv_neg (by rw [acomm]; exact hS)⟩
/-- a divisor of the discriminant and its derivative -/
theorem gcd_one {p : Nat} {f g : Nat → Nat} (hp : p = 2 ∨ p = 3 ∨ p = 5 ∨ p = 7) (hf : ∀ k, k < 64 → f k < p) (hg : ∀ k, k < 64 → g k < p) (h0 : 0 ≤ deg f) :
 eqN 64 (bzD p g f) oneP = decide (deg (bzD p f g) = 0) := by
 obtain ⟨a1, ⟨i, a2⟩, _, a4⟩ := bz_all hp hf hg (.inl h0)
 obtain ⟨b1, ⟨j, b2⟩, _, b4⟩ := bz_all hp hg hf (.inr h0)
 have d1 := (a4 _).1 (dv_self (p := p) (lz (bzD p f g)))
 have d2 := (b4 _).1 (dv_self (p := p) (lz (bzD p g f)))
 have c1 := dv_deg (fun k _ => b1 k) a2 ((b4 _).2 ⟨d1.2, d1.1⟩) (by rw [b2.1]; omega)
 have c2 := dv_deg (fun k _ => a1 k) b2 ((a4 _).2 ⟨d2.2, d2.1⟩) (by rw [a2.1]; omega)
 rw [b2.1] at c1
 rw [a2.1] at c2
 have e : i = j := by omega
 subst e
 by_cases h : i = 0
 · subst h
   rw [a2.1]
   have h1 : eqN 64 (bzD p g f) oneP = true := eqN_iff.2 (fun k hk => by
    have h3 := congrFun (one_of_mon0 b2) k
    unfold lz oneS at h3
    rw [cut_in _ hk] at h3
    unfold oneP
    by_cases hk0 : k = 0
    · rw [if_pos hk0] at h3 ⊢; omega
    · rw [if_neg hk0] at h3 ⊢; omega)
   rw [h1]; rfl
 · have h1 : eqN 64 (bzD p g f) oneP = false := by
    cases h2 : eqN 64 (bzD p g f) oneP with
    | false => rfl
    | true =>
     exfalso
     have := deg_congr (eqN_iff.1 h2)
     rw [b2.1, deg_one] at this
     omega
   rw [h1, a2.1]
   symm
   exact decide_eq_false (by omega)
end Go.Proofs.Ytoncepgcfifgbaa
end
section
namespace Go.Proofs.Ytoncepgcfifgbaa
open Go Go.RowKit
set_option linter.unusedVariables false
set_option linter.unusedSimpArgs false
attribute [local irreducible] deg invN dS qS stp stpr quoP resP oneP ofN dvo run monL facRows
theorem slL_empty (w : World) (e : TypeId) (size : Nat) {base : Nat} (h : base ≤ w.heap.size) : SlL (w.alloc (.cells #[] e)) base e size (.slice (some ⟨w.heap.size, 0, none⟩) 0 0) [] := by
 delta SlL
 refine ⟨?_, ?_, ?_⟩
 · simp; omega
 · intro c hc; cases hc
 · exact ⟨by simp, .inr ⟨w.heap.size, 0, #[], rfl, h, heap_alloc_last w _, Nat.le_refl _, Nat.zero_le _, by simp, by simp⟩⟩
set_option maxRecDepth 100000 in
set_option maxHeartbeats 12800000 in
theorem l01Count_any (p n : Nat) (w : World) (hp1 : 2 ≤ p) (hp2 : p ≤ 7) (hn : n ≤ 12) :
 Calls Try.prog 99 #[.int .i64 (p : Int), .int .i64 (n : Int)] w fun e w' => e = .returned (.int .i64 ((p ^ n : Nat) : Int)) ∧ w = w' := by
 go_enter Try.func99, Try.ntmps99
 go_wp2_with fail
 go_loopw [5, 1] (fun x i wr => ∃ k j X : Nat, k + j = n ∧ X = p ^ k ∧ x = .int .i64 (X : Int) ∧ i = .int .i64 (j : Int) ∧ wr = w) (fun _ i _ => (intOf i).toNat)
 case atStart => exact ⟨0, n, 1, by omega, rfl, rfl, rfl, rfl⟩
 case round =>
  obtain ⟨k, j, X, hk, hX, rfl, rfl, rfl⟩ := hrel
  have hb := mon_bound hp2 (by omega : k ≤ 12)
  rw [← hX] at hb
  have hX12 : (X : Int) ≤ 1000000000000 := by omega
  have HK := Lib.hid hk
  have hj20 : j ≤ 20 := by omega
  clear hk
  by_cases hlt : 0 < j
  · have hm : ((X * p : Nat) : Int) ≤ 13841287201 * 7 := by
     have : X * p ≤ 13841287201 * 7 := Nat.mul_le_mul hb hp2
     omega
    have hm2 : 0 ≤ ((X * p : Nat) : Int) := by omega
    rw [Int.natCast_mul] at hm hm2
    have HX := Lib.hid hX; clear hX
    go_wp2_with fail
    go_roundw
    case rel => exact ⟨k + 1, j - 1, X * p, by have := HK.out; omega, by rw [Nat.pow_succ, ← HX.out], by go_num, by rw [show ((j - 1 : Nat) : Int) = (j : Int) - 1 by omega], trivial⟩
    case measure => simp [intOf]; omega
  · have e : j = 0 := by omega
    subst e
    have e2 : k = n := by have := HK.out; omega
    have hmn : ((X : Int) < 1000000000001) := by omega
    have HX := Lib.hid hX
    have HK2 := Lib.hid e2
    clear hX e2
    go_wp2_with fail
    go_ret
    exact ⟨ret_int (congrArg (fun x : Nat => (x : Int)) (by rw [HX.out, HK2.out])), rfl⟩
end Go.Proofs.Ytoncepgcfifgbaa
namespace Go.Proofs.Ytoncepgcfifgbaa
open Go Go.RowKit
set_option linter.unusedVariables false
set_option linter.unusedSimpArgs false
attribute [local irreducible] deg facRows run bzD
set_option maxRecDepth 100000 in
set_option maxHeartbeats 3200000 in
theorem isUnit_any (p : Nat) (f m : Nat → Nat) (w : World) (hpr : p = 2 ∨ p = 3 ∨ p = 5 ∨ p = 7) (lf : ∀ k, k < 64 → f k < p) (lm : ∀ k, k < 64 → m k < p) (h0 : 0 ≤ deg m) :
 Calls Try.prog 119 #[.int .i64 (p : Int), .agg (zb 64 f), .agg (zb 64 m)] w fun e w' => e = .returned (.bool (eqN 64 (bzD p f m) oneP)) ∧ Below w.heap.size w w' := by
 have HB := Lib.hid (fun W => bezout_any p f m W hpr lf lm (.inr h0))
 go_enter Try.func119, Try.ntmps119
 go_upto_region 1 with (fail)
 obtain ⟨W1, hwo⟩ : ∃ v : World, v = ((w.alloc (.cells (zb 64 (f)) 23)).alloc (.cells (zb 64 (m)) 23)) := ⟨_, rfl⟩
 have B0 : Blk W1 (w.heap.size) 64 23 (f) := by subst hwo; have := ((Blk.new w 64 23 (f)).alloc (.cells (zb 64 (m)) 23)); simpa using this
 have B1 : Blk W1 (w.heap.size + 1) 64 23 (m) := by subst hwo; have := (Blk.new (w.alloc (.cells (zb 64 (f)) 23)) 64 23 (m)); simpa using this
 have hb : Below w.heap.size w W1 := by subst hwo; exact (((Below.refl _ _).alloc (Nat.le_refl _) _).alloc (by simp) _)
 rw [← hwo]
 clear hwo
 have hgd := Try.noGuard23
 have heq := fun W => zeb (P := Try.prog) W 9998 23 5 64 (bzD p f m) oneP Try.underlying23 Try.underlying5 Try.size5
 simp only [one64] at heq
 have lt_B0 := B0.lt
 have lt_B1 := B1.lt
 go_upto_region 2 with (first | rw [← z64] | (refine zla (.tmp 4) B0 Try.underlying23 Try.size23 ?_) | (refine zla (.tmp 5) B1 Try.underlying23 Try.size23 ?_) | (go_at_call 157; refine (HB.out _).mono ?_; rintro e W2 ⟨rfl, hW2⟩; replace B0 := B0.zw hW2; replace B1 := B1.zw hW2; replace hb := (hb).trans (hW2.mono (hb).size)) | (refine wpList_store_blk rfl 23 (.tmp 7) (.tmp 15) rfl _ 64 (bzD p f m) rfl rfl 23 _ ((((Blk.new W2 64 23 (fun _ => 0)).alloc (.cells (zb 64 fun _ => 0) 23)).alloc (.cells (zb 64 fun _ => 0) 23))) Try.size23 ?_; try simp only [Act.put]) | (refine wpList_store_blk rfl 23 (.tmp 8) (.tmp 16) rfl _ 64 (bzU p f m) rfl rfl 23 _ ((((show Blk ((W2.alloc (.cells (zb 64 fun _ => 0) 23)).alloc (.cells (zb 64 fun _ => 0) 23)) (W2.heap.size + 1) 64 23 (fun _ => 0) by have := Blk.new (W2.alloc (.cells (zb 64 fun _ => 0) 23)) 64 23 (fun _ => 0); simpa using this).alloc (.cells (zb 64 fun _ => 0) 23)).rowOther (by omega))) Try.size23 ?_; try simp only [Act.put]) | (refine wpList_store_blk rfl 23 (.tmp 9) (.tmp 17) rfl _ 64 (bzW p f m) rfl rfl 23 _ ((((show Blk (((W2.alloc (.cells (zb 64 fun _ => 0) 23)).alloc (.cells (zb 64 fun _ => 0) 23)).alloc (.cells (zb 64 fun _ => 0) 23)) (W2.heap.size + 1 + 1) 64 23 (fun _ => 0) by have := Blk.new ((W2.alloc (.cells (zb 64 fun _ => 0) 23)).alloc (.cells (zb 64 fun _ => 0) 23)) 64 23 (fun _ => 0); simpa using this).rowOther (by omega)).rowOther (by omega))) Try.size23 ?_; try simp only [Act.put]))
 have lt_B0 := B0.lt
 have lt_B1 := B1.lt
 have lhb := hb.size
 obtain ⟨W3, hwo, hzQ⟩ : ∃ v : World, v = ((((((W2.alloc (.cells (zb 64 fun _ => 0) 23)).alloc (.cells (zb 64 fun _ => 0) 23)).alloc (.cells (zb 64 fun _ => 0) 23)).setRow (W2.heap.size) (zb 64 (bzD p f m))).setRow (W2.heap.size + 1) (zb 64 (bzU p f m))).setRow (W2.heap.size + 1 + 1) (zb 64 (bzW p f m))) ∧ Blk v (w.heap.size) 64 23 (f) ∧ Blk v (w.heap.size + 1) 64 23 (m) ∧ Blk v (W2.heap.size) 64 23 (bzD p f m) ∧ Blk v (W2.heap.size + 1) 64 23 (bzU p f m) ∧ Blk v (W2.heap.size + 1 + 1) 64 23 (bzW p f m) ∧ Below w.heap.size w v := ⟨_, rfl, ((((((B0.alloc (.cells (zb 64 fun _ => 0) 23)).alloc (.cells (zb 64 fun _ => 0) 23)).alloc (.cells (zb 64 fun _ => 0) 23)).rowOther (by omega)).rowOther (by omega)).rowOther (by omega)), ((((((B1.alloc (.cells (zb 64 fun _ => 0) 23)).alloc (.cells (zb 64 fun _ => 0) 23)).alloc (.cells (zb 64 fun _ => 0) 23)).rowOther (by omega)).rowOther (by omega)).rowOther (by omega)), ((((((Blk.new W2 64 23 (fun _ => 0)).alloc (.cells (zb 64 fun _ => 0) 23)).alloc (.cells (zb 64 fun _ => 0) 23)).row (bzD p f m)).rowOther (by omega)).rowOther (by omega)), (((((show Blk ((W2.alloc (.cells (zb 64 fun _ => 0) 23)).alloc (.cells (zb 64 fun _ => 0) 23)) (W2.heap.size + 1) 64 23 (fun _ => 0) by have := Blk.new (W2.alloc (.cells (zb 64 fun _ => 0) 23)) 64 23 (fun _ => 0); simpa using this).alloc (.cells (zb 64 fun _ => 0) 23)).rowOther (by omega)).row (bzU p f m)).rowOther (by omega)), ((((show Blk (((W2.alloc (.cells (zb 64 fun _ => 0) 23)).alloc (.cells (zb 64 fun _ => 0) 23)).alloc (.cells (zb 64 fun _ => 0) 23)) (W2.heap.size + 1 + 1) 64 23 (fun _ => 0) by have := Blk.new ((W2.alloc (.cells (zb 64 fun _ => 0) 23)).alloc (.cells (zb 64 fun _ => 0) 23)) 64 23 (fun _ => 0); simpa using this).rowOther (by omega)).rowOther (by omega)).row (bzW p f m)), (zr (zr (zr (((hb.alloc (by have := hb.size; simp; omega) (.cells (zb 64 fun _ => 0) 23)).alloc (by have := hb.size; simp; omega) (.cells (zb 64 fun _ => 0) 23)).alloc (by have := hb.size; simp; omega) (.cells (zb 64 fun _ => 0) 23)) (by omega) _) (by omega) _) (by omega) _)⟩
 rw [← hwo]
 clear hwo B0 B1 hb
 obtain ⟨B0, B1, B2, B3, B4, hb⟩ := hzQ
 obtain ⟨N1, hNN⟩ : ∃ n : Nat, n = W2.heap.size := ⟨_, rfl⟩
 rw [← hNN] at lt_B0 lt_B1 lhb B2 B3 B4 ⊢
 clear hNN
 have zN1_0 := lt_B0
 have zN1_1 := lt_B1
 have zN1 := lhb
 clear lt_B0 lt_B1 lhb
 try simp only [Act.put, pA, pB, pC]
 go_wp2_with (first | (refine zla (.tmp 7) B2 Try.underlying23 Try.size23 ?_))
 go_ret
 exact ⟨rfl, hb⟩
end Go.Proofs.Ytoncepgcfifgbaa
end
section
namespace Go.Proofs.Ytoncepgcfifgbaa
open Go Go.RowKit
set_option linter.unusedVariables false
set_option linter.unusedSimpArgs false
theorem dvN_lt {p : Nat} {f : Nat → Nat} (hp : 0 < p) (k : Nat) : dvN p f k < p := by
 unfold dvN
 split
 · exact Nat.mod_lt _ hp
 · exact hp
attribute [local irreducible] deg dvN
theorem dvN_at {p : Nat} {f : Nat → Nat} {j : Nat} (h : j < 63) : dvN p f j = (j + 1) % p * f (j + 1) % p := by unfold dvN; rw [if_pos h]
theorem dvN_top (p : Nat) (f : Nat → Nat) : ∀ i, i < 64 → (if i < 64 - 1 then dvN p f i else 0) = dvN p f i := fun i hi => by
 by_cases h : i < 63
 · rw [if_pos (by omega)]
 · rw [if_neg (by omega)]; unfold dvN; rw [if_neg h]
set_option maxRecDepth 100000 in
set_option maxHeartbeats 1600000 in
theorem derivative_any (p : Nat) (f : Nat → Nat) (w : World) (p2 : 2 ≤ p) (n7 : p ≤ 7) (lf : ∀ k, k < 64 → f k < p) :
 Calls Try.prog 87 #[.int .i64 (p : Int), .agg (zb 64 f)] w fun e w' => e = .returned (.agg (zb 64 (dvN p f))) ∧ Below w.heap.size w w' := by
 have HF := Lib.hid lf
 have HV := Lib.hid (zbc (dvN_top p f))
 clear lf
 go_enter Try.func87, Try.ntmps87
 go_upto_region 1 with (fail)
 rw [← z64]
 obtain ⟨W1, hwo⟩ : ∃ v : World, v = ((w.alloc (.cells (zb 64 (f)) 23)).alloc (.cells (zb 64 (fun _ => 0)) 23)) := ⟨_, rfl⟩
 have B0 : Blk W1 (w.heap.size) 64 23 (f) := by subst hwo; have := ((Blk.new w 64 23 (f)).alloc (.cells (zb 64 (fun _ => 0)) 23)); simpa using this
 have B1 : Blk W1 (w.heap.size + 1) 64 23 (fun _ => 0) := by subst hwo; have := (Blk.new (w.alloc (.cells (zb 64 (f)) 23)) 64 23 (fun _ => 0)); simpa using this
 have hb : Below w.heap.size w W1 := by subst hwo; exact (((Below.refl _ _).alloc (Nat.le_refl _) _).alloc (by simp) _)
 rw [← hwo]
 clear hwo
 go_upto_region 2 with (first | rw [← z64])
 have lt_B0 := B0.lt
 have lt_B1 := B1.lt
 have lhb := hb.size
 obtain ⟨W2, hwo, hzQ⟩ : ∃ v : World, v = (W1.alloc (.cells (zb 64 (fun _ => 0)) 23)) ∧ Blk v (w.heap.size) 64 23 (f) ∧ Blk v (w.heap.size + 1) 64 23 (fun _ => 0) ∧ Blk v (W1.heap.size) 64 23 (fun _ => 0) ∧ Below w.heap.size w v := ⟨_, rfl, (B0.alloc (.cells (zb 64 (fun _ => 0)) 23)), (B1.alloc (.cells (zb 64 (fun _ => 0)) 23)), (Blk.new W1 64 23 (fun _ => 0)), (hb.alloc (by have := hb.size; simp; omega) (.cells (zb 64 (fun _ => 0)) 23))⟩
 rw [← hwo]
 clear hwo B0 B1 hb
 obtain ⟨B0, B1, B2, hb⟩ := hzQ
 obtain ⟨N1, hNN⟩ : ∃ n : Nat, n = W1.heap.size := ⟨_, rfl⟩
 rw [← hNN] at lt_B0 lt_B1 lhb B2 ⊢
 clear hNN
 have zN1_0 := lt_B0
 have zN1_1 := lt_B1
 have zN1 := lhb
 clear lt_B0 lt_B1 lhb
 try simp only [Act.put, pA, pB, pC]
 go_wp2_with fail
 go_loopw [6] (fun i wr => ∃ k : Nat, 1 ≤ k ∧ k ≤ 64 ∧ i = .int .i64 (k : Int) ∧ Below w.heap.size w wr ∧ Blk wr (w.heap.size) 64 23 f ∧ Blk wr (w.heap.size + 1) 64 23 (fun _ => 0) ∧ Blk wr (N1) 64 23 (fun i => if i < k - 1 then dvN p f i else 0)) (fun i _ => 64 - (intOf i).toNat)
 case atStart => exact ⟨1, by omega, by omega, rfl, hb, B0, B1, B2.congr (by simp)⟩
 case round =>
  clear hb B0 B1 B2
  obtain ⟨k, hk1, hk, rfl, hb, h0, h1, h2⟩ := hrel
  by_cases hlt : k < 64
  · obtain ⟨j, rfl⟩ : ∃ j, k = j + 1 := ⟨k - 1, by omega⟩
    have c1 := h0.cell (i := j + 1) (by omega)
    have z1 := h2.frozen j
    have c2 := h2.cell (i := j) (by omega)
    have e1 : ((j + 1 : Nat) : Int) = (j : Int) + 1 := by push_cast; rfl
    rw [e1]
    have b1 : f (j + 1) < p := HF.out (j + 1) hlt
    have m0 : 0 ≤ ((j : Int) + 1) % (p : Int) := Int.emod_nonneg _ (by omega)
    have m1 : ((j : Int) + 1) % (p : Int) < (p : Int) := Int.emod_lt_of_pos _ (by omega)
    have hmul : ((j : Int) + 1) % (p : Int) * (f (j + 1) : Int) ≤ 36 ∧ 0 ≤ ((j : Int) + 1) % (p : Int) * (f (j + 1) : Int) := by
     have := small_nat_mul n7 (Nat.mod_lt (j + 1) (show 0 < p by omega)) b1
     have e : (((j + 1) % p : Nat) : Int) = ((j : Int) + 1) % (p : Int) := by push_cast; rfl
     rwa [e] at this
    obtain ⟨m2, m3⟩ := hmul
    have m4 : 0 ≤ ((j : Int) + 1) % (p : Int) * (f (j + 1) : Int) % (p : Int) := Int.emod_nonneg _ (by omega)
    have m5 : ((j : Int) + 1) % (p : Int) * (f (j + 1) : Int) % (p : Int) < (p : Int) := Int.emod_lt_of_pos _ (by omega)
    have HE := Lib.hid e1; clear e1
    go_wp2_with fail
    go_region
    go_wp2_with fail
    go_roundw
    case rel =>
     refine ⟨j + 1 + 1, by omega, by omega, by rw [show ((j + 1 + 1 : Nat) : Int) = (j : Int) + 1 + 1 by omega], (hb.setCell (by simp; omega) _).drew, ?_, ?_, ?_⟩
     · exact (h0.setOther (by simp; omega)).drew
     · exact (h1.setOther (by simp; omega)).drew
     · refine ((h2.set (v := dvN p f j) ?_).congr (fun i _ => ?_)).drew
       · rw [dvN_at (by omega)]; push_cast; rfl
       · have := upd_lt (a := dvN p f) (b := fun _ => 0) (k := j) (v := dvN p f j) rfl i
         simpa using this
    case measure => simp [intOf] <;> omega
  · obtain rfl : k = 64 := by omega
    have B0 := h0
    have B1 := h1
    have B2 := h2
    clear h0 h1 h2
    go_upto_region 6 with (fail)
    have lt_B0 := B0.lt
    have lt_B1 := B1.lt
    have lt_B2 := B2.lt
    go_wp2_with (first | rw [← z64] | (refine zla (.tmp 5) B2 Try.underlying23 Try.size23 ?_) | (refine zsr (.tmp 4) (.tmp 25) (fun i => if i < 64 - 1 then dvN p f i else 0) B1 Try.size23 ?_; try simp only [Act.put]))
    obtain ⟨W3, hwo, hzQ⟩ : ∃ v : World, v = (wr.setRow (w.heap.size + 1) (zb 64 (fun i => if i < 64 - 1 then dvN p f i else 0))) ∧ Blk v (w.heap.size) 64 23 (f) ∧ Blk v (w.heap.size + 1) 64 23 (fun i => if i < 64 - 1 then dvN p f i else 0) ∧ Blk v (N1) 64 23 (fun i => if i < 64 - 1 then dvN p f i else 0) ∧ Below w.heap.size w v := ⟨_, rfl, (B0.rowOther (by omega)), (B1.row (fun i => if i < 64 - 1 then dvN p f i else 0)), (B2.rowOther (by omega)), (zr hb (by omega) _)⟩
    rw [← hwo]
    clear hwo B0 B1 B2 hb
    obtain ⟨B0, B1, B2, hb⟩ := hzQ
    try simp only [Act.put, pA, pB, pC]
    refine bodyPost_ret (zrb rfl _ _ _ 64 23 5 _ rfl B1 Try.underlying23 Try.size23) rfl ⟨by rw [HV.out], hb⟩
end Go.Proofs.Ytoncepgcfifgbaa
end
section
namespace Go.Proofs.Ytoncepgcfifgbaa
open Go Go.RowKit
set_option linter.unusedVariables false
set_option linter.unusedSimpArgs false
attribute [local irreducible] deg invN quoP resP prd bzD bzU bzW sqP
theorem sqP_def (p : Nat) (D B : Nat → Nat) : sqP p D B = fun i => (D i + p - prd p B B i) % p := by unfold sqP subP; rfl
theorem sqP_ltI {p : Nat} {D B : Nat → Nat} (hp : 0 < p) (k : Nat) : sqP p D B k < p := sqP_lt hp k
set_option maxRecDepth 100000 in
set_option maxHeartbeats 3200000 in
theorem lessSquare_any (p : Nat) (D B : Nat → Nat) (w : World) (p2 : 2 ≤ p) (p7 : p ≤ 7) (lD : ∀ k, k < 64 → D k < p) (lB : ∀ k, k < 64 → B k < p) :
 Calls Try.prog 164 #[.agg (fdC (p : Int) D).toArray, .agg (zb 64 B)] w fun e w' => e = .returned (.agg (zb 64 (sqP p D B))) ∧ Below w.heap.size w w' := by
 have HPR := Lib.hid (fun W => product_any p B B W p2 p7 lB lB)
 have HDF := Lib.hid (show ∀ W, Calls Try.prog 158 #[.int .i64 (p : Int), .agg (zb 64 D), .agg (zb 64 (prd p B B))] W fun e w' => e = .returned (.agg (zb 64 (sqP p D B))) ∧ Below W.heap.size W w' from fun W => by
  have := difference_any p D (prd p B B) W p2 p7 lD (fun i _ => prd_lt (by omega) i)
  rw [← sqP_def] at this; exact this)
 go_enter Try.func164, Try.ntmps164
 go_upto_region 1 with (fail)
 rw [← z64]
 obtain ⟨W1, hwo⟩ : ∃ v : World, v = (((w.alloc (.cells (fdC (p : Int) D).toArray 107)).alloc (.cells (zb 64 (B)) 23)).alloc (.cells (zb 64 (fun _ => 0)) 23)) := ⟨_, rfl⟩
 have B0 : Row W1 (w.heap.size) 107 (fdC (p : Int) D).toArray := by subst hwo; have := (((Row.new w 107 (fdC (p : Int) D).toArray).alloc (.cells (zb 64 (B)) 23)).alloc (.cells (zb 64 (fun _ => 0)) 23)); simpa using this
 have B1 : Blk W1 (w.heap.size + 1) 64 23 (B) := by subst hwo; have := ((Blk.new (w.alloc (.cells (fdC (p : Int) D).toArray 107)) 64 23 (B)).alloc (.cells (zb 64 (fun _ => 0)) 23)); simpa using this
 have B2 : Blk W1 (w.heap.size + 1 + 1) 64 23 (fun _ => 0) := by subst hwo; have := (Blk.new ((w.alloc (.cells (fdC (p : Int) D).toArray 107)).alloc (.cells (zb 64 (B)) 23)) 64 23 (fun _ => 0)); simpa using this
 have hb : Below w.heap.size w W1 := by subst hwo; exact ((((Below.refl _ _).alloc (Nat.le_refl _) _).alloc (by simp) _).alloc (by simp; omega) _)
 rw [← hwo]
 clear hwo
 have lt_B0 : (w.heap.size) < W1.heap.size := B0.lt
 have lt_B1 : (w.heap.size + 1) < W1.heap.size := B1.lt
 have lt_B2 : (w.heap.size + 1 + 1) < W1.heap.size := B2.lt
 have hbase : w.heap.size ≤ W1.heap.size := hb.size
 refine zq Try.mixed (by kernel_rfl) (by kernel_rfl) (fun v => by (simp only [frL, Act.put, pA, pB, pC, Nat.reduceAdd, Nat.zero_add]; exact rfl))
  (fun L v W2 => Below w.heap.size w W2 ∧ Kx [w.heap.size + 1 + 1] W1 W2 ∧ (∃ g, Blk W2 (w.heap.size + 1 + 1) 64 23 (g)) ∧ (L 10 = false → Blk W2 (w.heap.size + 1 + 1) 64 23 (fun _ => 0)) ∧ (L 10 = true → Blk W2 (w.heap.size + 1 + 1) 64 23 (sqP p D B)) ∧ VF L v [some (.pointer (some ⟨w.heap.size, 0, none⟩)), some (.int .i64 (p : Int)), some (.pointer (some ⟨w.heap.size, 1, none⟩)), some (.agg (zb 64 (D))), some (.pointer (some ⟨w.heap.size, 0, none⟩)), some (.int .i64 (p : Int)), some (.agg (zb 64 (B))), some (.agg (zb 64 (B))), some (.agg (zb 64 (prd p B B))), some (.agg (zb 64 (sqP p D B))), none]) ?_ ?_ ?_
 · intro v hv0
   exact ⟨hb.drew, Kx.start _ _, ⟨_, B2.drew⟩, (fun _ => B2.drew), (fun h => by cases h), VF.start⟩
 · refine (.cons rfl ?_ (.cons rfl ?_ (.cons rfl ?_ (.cons rfl ?_ (.cons rfl ?_ (.cons rfl ?_ (.cons rfl ?_ (.cons rfl ?_ (.cons rfl ?_ (.cons rfl ?_ (.cons rfl ?_ (.nil _))))))))))))
   all_goals intro L v W2 hd hn ⟨hB, hX, x2, q2, n2, V⟩ K hK
   · go_wp2_with fail
     exact hK _ (.pointer (some ⟨w.heap.size, 0, none⟩)) _ (by simp only [Act.put, pA, pB, pC ]) ⟨hB, hX, x2, q2, n2, V.step 0 rfl⟩
   · have e0 := V.at (zdq hd 0 rfl) rfl
     refine wp_load_rowc 2 _ rfl _ 0 e0 107 _ (B0.kx hX (by simp <;> omega)) (.int .i64 (p : Int)) (fdC_at _ _) _ Try.underlying2 rfl ?_
     exact hK _ _ _ rfl ⟨hB, hX, x2, q2, n2, V.step 1 rfl⟩
   · go_wp2_with fail
     exact hK _ (.pointer (some ⟨w.heap.size, 1, none⟩)) _ (by simp only [Act.put, pA, pB, pC ]) ⟨hB, hX, x2, q2, n2, V.step 2 rfl⟩
   · have e2 := V.at (zdq hd 2 rfl) rfl
     refine wp_load_mid 23 _ rfl _ 1 e2 _ _ ((B0.kx hX (by simp <;> omega)).fd) Try.underlying23 rfl (by rw [zl]; exact Try.size23) ?_
     exact hK _ _ _ rfl ⟨hB, hX, x2, q2, n2, V.step 3 rfl⟩
   · go_wp2_with fail
     exact hK _ (.pointer (some ⟨w.heap.size, 0, none⟩)) _ (by simp only [Act.put, pA, pB, pC ]) ⟨hB, hX, x2, q2, n2, V.step 4 rfl⟩
   · have e4 := V.at (zdq hd 4 rfl) rfl
     refine wp_load_rowc 2 _ rfl _ 0 e4 107 _ (B0.kx hX (by simp <;> omega)) (.int .i64 (p : Int)) (fdC_at _ _) _ Try.underlying2 rfl ?_
     exact hK _ _ _ rfl ⟨hB, hX, x2, q2, n2, V.step 5 rfl⟩
   · refine wp_load_any 23 _ rfl _ rfl 64 23 _ (B1.kx hX (by simp <;> omega)) _ Try.underlying23 rfl Try.size23 ?_
     exact hK _ _ _ rfl ⟨hB, hX, x2, q2, n2, V.step 6 rfl⟩
   · refine wp_load_any 23 _ rfl _ rfl 64 23 _ (B1.kx hX (by simp <;> omega)) _ Try.underlying23 rfl Try.size23 ?_
     exact hK _ _ _ rfl ⟨hB, hX, x2, q2, n2, V.step 7 rfl⟩
   · have e5 := V.at (zdq hd 5 rfl) rfl
     have e6 := V.at (zdq hd 6 rfl) rfl
     have e7 := V.at (zdq hd 7 rfl) rfl
     go_wp2_with (go_at_call 94; refine (HPR.out _).mono ?_; rintro e wy ⟨rfl, hy⟩)
     exact hK _ (.agg (zb 64 (prd p B B))) _ (by simp only [Act.put, pA, pB, pC, e5, e6, e7]) ⟨hB.trans (hy.mono hB.size), hX.below hy, (let ⟨g, h⟩ := x2; ⟨g, h.zw hy⟩), (fun h => (q2 h).below hy (q2 h).lt), (fun h => (n2 h).below hy (n2 h).lt), V.step 8 rfl⟩
   · have e1 := V.at (zdq hd 1 rfl) rfl
     have e3 := V.at (zdq hd 3 rfl) rfl
     have e8 := V.at (zdq hd 8 rfl) rfl
     go_wp2_with (go_at_call 158; refine (HDF.out _).mono ?_; rintro e wy ⟨rfl, hy⟩)
     exact hK _ (.agg (zb 64 (sqP p D B))) _ (by simp only [Act.put, pA, pB, pC, e1, e3, e8]) ⟨hB.trans (hy.mono hB.size), hX.below hy, (let ⟨g, h⟩ := x2; ⟨g, h.zw hy⟩), (fun h => (q2 h).below hy (q2 h).lt), (fun h => (n2 h).below hy (n2 h).lt), V.step 9 rfl⟩
   · have e9 := V.at (zdq hd 9 rfl) rfl
     obtain ⟨gz, hk⟩ := x2
     refine zsb 23 _ _ rfl _ 64 (sqP p D B) rfl e9 23 gz hk Try.size23 ?_
     exact hK _ undef _ rfl ⟨zr hB (by omega) _, hX.row (by simp) _, ⟨_, hk.row _⟩, (fun h => absurd h (by simp [setL])), (fun _ => hk.row _), V.skip 10 rfl⟩
 · intro L v W2 hL ⟨hB, hX, x2, q2, n2, V⟩
   have r2 := n2 (hL 10 (by decide))
   have e0 := V.at (hL 0 (by decide)) rfl
   have e1 := V.at (hL 1 (by decide)) rfl
   have e2 := V.at (hL 2 (by decide)) rfl
   have e3 := V.at (hL 3 (by decide)) rfl
   have e4 := V.at (hL 4 (by decide)) rfl
   have e5 := V.at (hL 5 (by decide)) rfl
   have e6 := V.at (hL 6 (by decide)) rfl
   have e7 := V.at (hL 7 (by decide)) rfl
   have e8 := V.at (hL 8 (by decide)) rfl
   have e9 := V.at (hL 9 (by decide)) rfl
   clear hL x2 q2 n2 V
   replace B0 := B0.kx hX (by simp <;> omega)
   replace B1 := B1.kx hX (by simp <;> omega)
   clear hX
   simp only [Exit.then, e0, e1, e2, e3, e4, e5, e6, e7, e8, e9]
   clear e0 e1 e2 e3 e4 e5 e6 e7 e8 e9
   replace B2 := r2
   clear r2
   replace hb := hB
   clear hB
   clear hbase lt_B0 lt_B1 lt_B2
   go_wp2_with fail
   refine bodyPost_ret (zrb rfl _ _ _ 64 23 5 _ rfl B2 Try.underlying23 Try.size23) rfl ⟨rfl, hb⟩
set_option maxRecDepth 100000 in
set_option maxHeartbeats 3200000 in
theorem l07Square_any (p : Nat) (D B : Nat → Nat) (w : World) (p2 : 2 ≤ p) (p7 : p ≤ 7) (lD : ∀ k, k < 64 → D k < p) (lB : ∀ k, k < 64 → B k < p) (hB : deg B + deg B ≤ 63) :
 Calls Try.prog 163 #[.int .i64 (p : Int), .agg (zb 64 D), .agg (zb 64 B)] w fun e w' => e = .returned (.agg (zb 64 (addK p (prd p B B) D (-1)))) ∧ Below w.heap.size w w' := by
 have HTM := Lib.hid (show ∀ W, Calls Try.prog 91 #[.int .i64 (p : Int), .agg (zb 64 B), .agg (zb 64 B)] W fun e w' => e = .returned (.tuple #[.agg (zb 64 (prd p B B)), .bool true]) ∧ Below W.heap.size W w' from fun W => by
  have := l01Times_any p B B W p2 p7 lB lB
  rw [show tmV p B B = (prd p B B, true) from if_pos hB] at this; exact this)
 have HAD := Lib.hid (fun W => l01Add_any p (prd p B B) D (-1) W p2 p7 (by omega) (by omega) (fun i _ => prd_lt (by omega) i) lD)
 go_enter Try.func163, Try.ntmps163
 go_upto_region 1 with (fail)
 rw [← z64]
 obtain ⟨W1, hwo⟩ : ∃ v : World, v = (((w.alloc (.cells (zb 64 (D)) 23)).alloc (.cells (zb 64 (B)) 23)).alloc (.cells (zb 64 (fun _ => 0)) 23)) := ⟨_, rfl⟩
 have B0 : Blk W1 (w.heap.size) 64 23 (D) := by subst hwo; have := (((Blk.new w 64 23 (D)).alloc (.cells (zb 64 (B)) 23)).alloc (.cells (zb 64 (fun _ => 0)) 23)); simpa using this
 have B1 : Blk W1 (w.heap.size + 1) 64 23 (B) := by subst hwo; have := ((Blk.new (w.alloc (.cells (zb 64 (D)) 23)) 64 23 (B)).alloc (.cells (zb 64 (fun _ => 0)) 23)); simpa using this
 have B2 : Blk W1 (w.heap.size + 1 + 1) 64 23 (fun _ => 0) := by subst hwo; have := (Blk.new ((w.alloc (.cells (zb 64 (D)) 23)).alloc (.cells (zb 64 (B)) 23)) 64 23 (fun _ => 0)); simpa using this
 have hb : Below w.heap.size w W1 := by subst hwo; exact ((((Below.refl _ _).alloc (Nat.le_refl _) _).alloc (by simp) _).alloc (by simp; omega) _)
 rw [← hwo]
 clear hwo
 have lt_B0 := B0.lt
 have lt_B1 := B1.lt
 have lt_B2 := B2.lt
 go_upto_region 2 with (first | rw [← z64] | (refine zla (.tmp 5) B1 Try.underlying23 Try.size23 ?_) | (refine zla (.tmp 5) B1 Try.underlying23 Try.size23 ?_) | (go_at_call 91; refine (HTM.out _).mono ?_; rintro e W2 ⟨rfl, hW2⟩; replace B0 := B0.zw hW2; replace B1 := B1.zw hW2; replace B2 := B2.zw hW2; replace hb := (hb).trans (hW2.mono (hb).size)) | (refine wpList_store_blk rfl 23 (.tmp 7) (.tmp 14) rfl _ 64 (prd p B B) rfl rfl 23 _ ((Blk.new W2 64 23 (fun _ => 0))) Try.size23 ?_; try simp only [Act.put]; go_upto_region 2 with (fail)))
 have lt_B0 := B0.lt
 have lt_B1 := B1.lt
 have lt_B2 := B2.lt
 have lhb := hb.size
 obtain ⟨W3, hwo, hzQ⟩ : ∃ v : World, v = ((W2.alloc (.cells (zb 64 (fun _ => 0)) 23)).setRow (W2.heap.size) (zb 64 (prd p B B))) ∧ Blk v (w.heap.size) 64 23 (D) ∧ Blk v (w.heap.size + 1) 64 23 (B) ∧ Blk v (w.heap.size + 1 + 1) 64 23 (fun _ => 0) ∧ Blk v (W2.heap.size) 64 23 (prd p B B) ∧ Below w.heap.size w v := ⟨_, rfl, ((B0.alloc (.cells (zb 64 (fun _ => 0)) 23)).rowOther (by omega)), ((B1.alloc (.cells (zb 64 (fun _ => 0)) 23)).rowOther (by omega)), ((B2.alloc (.cells (zb 64 (fun _ => 0)) 23)).rowOther (by omega)), ((Blk.new W2 64 23 (fun _ => 0)).row (prd p B B)), (zr (hb.alloc (by have := hb.size; simp; omega) (.cells (zb 64 (fun _ => 0)) 23)) (by omega) _)⟩
 rw [← hwo]
 clear hwo B0 B1 B2 hb
 obtain ⟨B0, B1, B2, B3, hb⟩ := hzQ
 obtain ⟨N1, hNN⟩ : ∃ n : Nat, n = W2.heap.size := ⟨_, rfl⟩
 rw [← hNN] at lt_B0 lt_B1 lt_B2 lhb B3 ⊢
 clear hNN
 have zN1_0 := lt_B0
 have zN1_1 := lt_B1
 have zN1_2 := lt_B2
 have zN1 := lhb
 clear lt_B0 lt_B1 lt_B2 lhb
 try simp only [Act.put, pA, pB, pC]
 have lt_B0 := B0.lt
 have lt_B1 := B1.lt
 have lt_B2 := B2.lt
 have lt_B3 := B3.lt
 go_wp2_with (first | rw [← z64] | (refine zla (.tmp 7) B3 Try.underlying23 Try.size23 ?_) | (refine zla (.tmp 4) B0 Try.underlying23 Try.size23 ?_) | (go_at_call 153; refine (HAD.out _).mono ?_; rintro e W4 ⟨rfl, hW4⟩; replace B0 := B0.zw hW4; replace B1 := B1.zw hW4; replace B2 := B2.zw hW4; replace B3 := B3.zw hW4; replace hb := (hb).trans (hW4.mono (hb).size)) | (refine zsr (.tmp 6) (.tmp 19) (addK p (prd p B B) D (-1)) B2 Try.size23 ?_; try simp only [Act.put]))
 obtain ⟨W5, hwo, hzQ⟩ : ∃ v : World, v = (W4.setRow (w.heap.size + 1 + 1) (zb 64 (addK p (prd p B B) D (-1)))) ∧ Blk v (w.heap.size) 64 23 (D) ∧ Blk v (w.heap.size + 1) 64 23 (B) ∧ Blk v (w.heap.size + 1 + 1) 64 23 (addK p (prd p B B) D (-1)) ∧ Blk v (N1) 64 23 (prd p B B) ∧ Below w.heap.size w v := ⟨_, rfl, (B0.rowOther (by omega)), (B1.rowOther (by omega)), (B2.row (addK p (prd p B B) D (-1))), (B3.rowOther (by omega)), (zr hb (by omega) _)⟩
 rw [← hwo]
 clear hwo B0 B1 B2 B3 hb
 obtain ⟨B0, B1, B2, B3, hb⟩ := hzQ
 try simp only [Act.put, pA, pB, pC]
 refine bodyPost_ret (zrb rfl _ _ _ 64 23 5 _ rfl B2 Try.underlying23 Try.size23) rfl ⟨rfl, hb⟩
set_option maxRecDepth 100000 in
set_option maxHeartbeats 3200000 in
theorem genus_any (q : Int) (g : Nat) (D : Nat → Nat) (w : World) (hD : deg D = ((2 * g + 1 : Nat) : Int)) :
 Calls Try.prog 169 #[.agg (fdC q D).toArray] w fun e w' => e = .returned (.int .i64 (g : Int)) ∧ Below w.heap.size w w' := by
 obtain ⟨N, hN⟩ : ∃ N : Nat, N = 2 * g + 1 := ⟨_, rfl⟩
 rw [← hN] at hD
 have hg9 : N ≤ 63 := by have := zdb D; omega
 have tq1 : (N : Int).tdiv 2 = (g : Int) := by rw [Int.tdiv_eq_ediv_of_nonneg (by omega)]; omega
 have HDG := Lib.hid (fun W => degree_any D W)
 rw [hD] at HDG
 have hN1 : 1 ≤ N := by omega
 have hg31 : g ≤ 31 := by omega
 clear hD hN
 go_enter Try.func169, Try.ntmps169
 go_upto_region 1 with (fail)
 obtain ⟨W1, hwo⟩ : ∃ v : World, v = (w.alloc (.cells (fdC q D).toArray 107)) := ⟨_, rfl⟩
 have B0 : Row W1 (w.heap.size) 107 (fdC q D).toArray := by subst hwo; have := (Row.new w 107 (fdC q D).toArray); simpa using this
 have hb : Below w.heap.size w W1 := by subst hwo; exact ((Below.refl _ _).alloc (Nat.le_refl _) _)
 rw [← hwo]
 clear hwo
 go_wp2_with (first | (refine wpList_load_mid rfl 23 (.tmp 3) rfl _ 1 rfl (bl 64 D) _ (B0.fd) Try.underlying23 rfl (by rw [zl]; exact Try.size23) ?_) | (go_at_call 92; refine (HDG.out _).mono ?_; rintro e W2 ⟨rfl, hW2⟩; replace B0 := B0.zw hW2; replace hb := (hb).trans (hW2.mono (hb).size)))
 go_ret
 exact ⟨by first | rfl | rw [tq1], hb⟩
set_option maxRecDepth 100000 in
set_option maxHeartbeats 3200000 in
theorem l07Genus_any (g : Nat) (D : Nat → Nat) (w : World) (hD : deg D = ((2 * g + 1 : Nat) : Int)) :
 Calls Try.prog 165 #[.agg (zb 64 D)] w fun e w' => e = .returned (.int .i64 (g : Int)) ∧ Below w.heap.size w w' := by
 obtain ⟨N, hN⟩ : ∃ N : Nat, N = 2 * g + 1 := ⟨_, rfl⟩
 rw [← hN] at hD
 have hg9 : N ≤ 63 := by have := zdb D; omega
 have tq1 : ((N : Int) - 1).tdiv 2 = (g : Int) := by rw [Int.tdiv_eq_ediv_of_nonneg (by omega)]; omega
 have HDG := Lib.hid (fun W => l01Deg_any D W)
 rw [hD] at HDG
 have hN1 : 1 ≤ N := by omega
 have hg31 : g ≤ 31 := by omega
 clear hD hN
 go_enter Try.func165, Try.ntmps165
 go_upto_region 1 with (fail)
 obtain ⟨W1, hwo⟩ : ∃ v : World, v = (w.alloc (.cells (zb 64 (D)) 23)) := ⟨_, rfl⟩
 have B0 : Blk W1 (w.heap.size) 64 23 (D) := by subst hwo; have := (Blk.new w 64 23 (D)); simpa using this
 have hb : Below w.heap.size w W1 := by subst hwo; exact ((Below.refl _ _).alloc (Nat.le_refl _) _)
 rw [← hwo]
 clear hwo
 go_wp2_with (first | (refine zla (.tmp 1) B0 Try.underlying23 Try.size23 ?_) | (go_at_call 88; refine (HDG.out _).mono ?_; rintro e W2 ⟨rfl, hW2⟩; replace B0 := B0.zw hW2; replace hb := (hb).trans (hW2.mono (hb).size)))
 go_ret
 exact ⟨by first | rfl | rw [tq1], hb⟩
set_option maxRecDepth 100000 in
set_option maxHeartbeats 3200000 in
theorem has_any (p : Nat) (D A B : Nat → Nat) (w : World) (hpr : p = 2 ∨ p = 3 ∨ p = 5 ∨ p = 7) (lD : ∀ k, k < 64 → D k < p) (lA : ∀ k, k < 64 → A k < p) (lB : ∀ k, k < 64 → B k < p) (h0 : 0 ≤ deg A) :
 Calls Try.prog 126 #[.agg (fdC (p : Int) D).toArray, .agg (frC A B).toArray] w fun e w' => e = .returned (.bool (decide (deg (resP p (sqP p D B) A) < 0))) ∧ Below w.heap.size w w' := by
 have p0 : 0 < p := by omega
 have HLS := Lib.hid (fun W => lessSquare_any p D B W (by omega) (by omega) lD lB)
 have HRS := Lib.hid (fun W => restOf_any p (sqP p D B) A W hpr (fun k _ => sqP_ltI p0 k) lA h0)
 have hgd := Try.noGuard23
 have heq := fun W => zeb (P := Try.prog) W 9998 23 5 64 (resP p (sqP p D B) A) (fun _ => 0) Try.underlying23 Try.underlying5 Try.size5
 rw [eqN_zero] at heq
 go_enter Try.func126, Try.ntmps126
 go_upto_region 1 with (fail)
 obtain ⟨W1, hwo⟩ : ∃ v : World, v = ((w.alloc (.cells (fdC (p : Int) D).toArray 107)).alloc (.cells (frC A B).toArray 55)) := ⟨_, rfl⟩
 have B0 : Row W1 (w.heap.size) 107 (fdC (p : Int) D).toArray := by subst hwo; have := ((Row.new w 107 (fdC (p : Int) D).toArray).alloc (.cells (frC A B).toArray 55)); simpa using this
 have B1 : Row W1 (w.heap.size + 1) 55 (frC A B).toArray := by subst hwo; have := (Row.new (w.alloc (.cells (fdC (p : Int) D).toArray 107)) 55 (frC A B).toArray); simpa using this
 have hb : Below w.heap.size w W1 := by subst hwo; exact (((Below.refl _ _).alloc (Nat.le_refl _) _).alloc (by simp) _)
 rw [← hwo]
 clear hwo
 refine zq Try.mixed (by kernel_rfl) (by kernel_rfl) (fun v => by (simp only [frL, Act.put, pA, pB, pC, Nat.reduceAdd, Nat.zero_add]; exact rfl))
  (fun L v W2 => Below W1.heap.size W1 W2 ∧ VF L v [some (.pointer (some ⟨w.heap.size, 0, none⟩)), some (.int .i64 (p : Int)), some (.agg (fdC (p : Int) D).toArray), some (.pointer (some ⟨w.heap.size + 1, 64, none⟩)), some (.agg (zb 64 (B))), some (.agg (zb 64 (sqP p D B))), some (.pointer (some ⟨w.heap.size + 1, 0, none⟩)), some (.agg (zb 64 (A))), some (.agg (zb 64 (resP p (sqP p D B) A))), some (.agg (zb 64 (fun _ => 0))), some (.bool (decide (deg (resP p (sqP p D B) A) < 0))), some (.bool (decide (deg (resP p (sqP p D B) A) < 0)))]) ?_ ?_ ?_
 · intro v hv0
   exact ⟨(Below.refl _ W1).drew, VF.start⟩
 · refine (.cons rfl ?_ (.cons rfl ?_ (.cons rfl ?_ (.cons rfl ?_ (.cons rfl ?_ (.cons rfl ?_ (.cons rfl ?_ (.cons rfl ?_ (.cons rfl ?_ (.cons rfl ?_ (.cons rfl ?_ (.cons rfl ?_ (.nil _)))))))))))))
   all_goals intro L v W2 hd hn ⟨hY, V⟩ K hK
   · go_wp2_with fail
     exact hK _ (.pointer (some ⟨w.heap.size, 0, none⟩)) _ (by simp only [Act.put, pA, pB, pC ]) ⟨hY, V.step 0 rfl⟩
   · have e0 := V.at (zdq hd 0 rfl) rfl
     refine wp_load_rowc 2 _ rfl _ 0 e0 107 _ (B0.zw hY) (.int .i64 (p : Int)) (fdC_at _ _) _ Try.underlying2 rfl ?_
     exact hK _ _ _ rfl ⟨hY, V.step 1 rfl⟩
   · refine wp_load_rowv 107 _ rfl _ rfl 107 _ (B0.zw hY) _ Try.underlying107 rfl 65 Try.size107 (by simp [fdC_len]) ?_
     exact hK _ _ _ rfl ⟨hY, V.step 2 rfl⟩
   · go_wp2_with fail
     exact hK _ (.pointer (some ⟨w.heap.size + 1, 64, none⟩)) _ (by simp only [Act.put, pA, pB, pC ]) ⟨hY, V.step 3 rfl⟩
   · have e3 := V.at (zdq hd 3 rfl) rfl
     refine wp_load_mid 23 _ rfl _ 64 e3 _ _ ((B1.zw hY).frb) Try.underlying23 rfl (by rw [zl]; exact Try.size23) ?_
     exact hK _ _ _ rfl ⟨hY, V.step 4 rfl⟩
   · have e2 := V.at (zdq hd 2 rfl) rfl
     have e4 := V.at (zdq hd 4 rfl) rfl
     go_wp2_with (go_at_call 164; refine (HLS.out _).mono ?_; rintro e wy ⟨rfl, hy⟩)
     exact hK _ (.agg (zb 64 (sqP p D B))) _ (by simp only [Act.put, pA, pB, pC, e2, e4]) ⟨hY.trans (hy.mono hY.size), V.step 5 rfl⟩
   · go_wp2_with fail
     exact hK _ (.pointer (some ⟨w.heap.size + 1, 0, none⟩)) _ (by simp only [Act.put, pA, pB, pC ]) ⟨hY, V.step 6 rfl⟩
   · have e6 := V.at (zdq hd 6 rfl) rfl
     refine wp_load_mid 23 _ rfl _ 0 e6 _ _ ((B1.zw hY).fra) Try.underlying23 rfl (by rw [zl]; exact Try.size23) ?_
     exact hK _ _ _ rfl ⟨hY, V.step 7 rfl⟩
   · have e1 := V.at (zdq hd 1 rfl) rfl
     have e5 := V.at (zdq hd 5 rfl) rfl
     have e7 := V.at (zdq hd 7 rfl) rfl
     go_wp2_with (go_at_call 150; refine (HRS.out _).mono ?_; rintro e wy ⟨rfl, hy⟩)
     exact hK _ (.agg (zb 64 (resP p (sqP p D B) A))) _ (by simp only [Act.put, pA, pB, pC, e1, e5, e7]) ⟨hY.trans (hy.mono hY.size), V.step 8 rfl⟩
   · go_wp2_with fail
     rw [← z64]
     exact hK _ (.agg (zb 64 (fun _ => 0))) _ (by simp only [Act.put, pA, pB, pC ]) ⟨hY, V.step 9 rfl⟩
   · have e8 := V.at (zdq hd 8 rfl) rfl
     have e9 := V.at (zdq hd 9 rfl) rfl
     go_wp2_with fail
     exact hK _ (.bool (decide (deg (resP p (sqP p D B) A) < 0))) _ (by simp only [Act.put, pA, pB, pC, e8, e9]) ⟨hY, V.step 10 rfl⟩
   · have e10 := V.at (zdq hd 10 rfl) rfl
     go_wp2_with fail
     exact hK _ (.bool (decide (deg (resP p (sqP p D B) A) < 0))) _ (by simp only [Act.put, pA, pB, pC, e10]) ⟨hY, V.step 11 rfl⟩
 · intro L v W2 hL ⟨hY, V⟩
   have e0 := V.at (hL 0 (by decide)) rfl
   have e1 := V.at (hL 1 (by decide)) rfl
   have e2 := V.at (hL 2 (by decide)) rfl
   have e3 := V.at (hL 3 (by decide)) rfl
   have e4 := V.at (hL 4 (by decide)) rfl
   have e5 := V.at (hL 5 (by decide)) rfl
   have e6 := V.at (hL 6 (by decide)) rfl
   have e7 := V.at (hL 7 (by decide)) rfl
   have e8 := V.at (hL 8 (by decide)) rfl
   have e9 := V.at (hL 9 (by decide)) rfl
   have e10 := V.at (hL 10 (by decide)) rfl
   have e11 := V.at (hL 11 (by decide)) rfl
   clear hL V
   replace B0 := B0.zw hY
   replace B1 := B1.zw hY
   replace hb := hb.trans (hY.mono hb.size)
   clear hY
   simp only [Exit.then, e0, e1, e2, e3, e4, e5, e6, e7, e8, e9, e10, e11]
   clear e0 e1 e2 e3 e4 e5 e6 e7 e8 e9 e10 e11
   go_wp2_with fail
   go_ret
   exact ⟨rfl, hb⟩
end Go.Proofs.Ytoncepgcfifgbaa
end
section
namespace Go.Proofs.Ytoncepgcfifgbaa
open Go Go.RowKit
set_option linter.unusedVariables false
set_option linter.unusedSimpArgs false
attribute [local irreducible] deg monB okA
theorem okA_nat {p : Int} {f : Nat → Nat} (h : okA p f = true) : ∃ n : Nat, p = (n : Int) ∧ (n = 2 ∨ n = 3 ∨ n = 5 ∨ n = 7) ∧ ∀ k, k < 64 → f k < n := by
 obtain ⟨n, hn, n2, n7⟩ := okP_nat (okA_p h)
 refine ⟨n, hn, ?_, fun k hk => ?_⟩
 · rcases okP_cases (okA_p h) with e | e | e | e <;> omega
 · have := okA_lt h hk; omega
end Go.Proofs.Ytoncepgcfifgbaa
end
