/-
  What the rows of this claim rest on: arrays of bytes, walks of the functions, plain mathematics.
-/
import Derived.Test.YtobcdekochenfaaZp2
import Derived.WalkKit
import Derived.WalkSpells
import Derived.WalkLawsBesides
import Derived.Lib.Hide
import Derived.Laws.Rows
import Derived.Laws.CopyOwn
import Derived.Deep.QuietTactic
import Derived.Deep.WholeRow
import Derived.Deep.Draws
import Derived.Deep.MidRow
import Derived.Deep.CutRange
import Derived.Deep.DeepCutAuto
import Derived.Deep.RegionHeld3
import Derived.BigQuiet
import Derived.BigRegion
import Derived.Test.YtobcdekochenfaaRows
import Derived.Great.BuildSlice
import Derived.Laws.Tables
import Derived.Laws.StructEq
import Derived.ScopeJumps
import Derived.Deep.CutBlock
import Derived.OwnWalk
import Derived.RangeFuncNested
import Derived.RangeFuncBound
import Derived.RangeFuncCalls
import Derived.RangeFuncLeaves
import Derived.Shelf.Abstract
import Derived.Shelf.RegionOpen
import Derived.OwnWalkIn
import Derived.TacticsInMore
import Derived.LoopNIn
import Derived.LoopIn
import Derived.Maps.OwnOps
import Derived.DeepKeys4
import Derived.Carry
import Derived.Test.YtobcdekochenfaaProg
section
namespace Go.Proofs.Ytobcdekochenfaa
open Go Go.RowKit
set_option linter.unusedVariables false
set_option linter.unusedSimpArgs false
attribute [local irreducible] pwT cdW pqW psV sdB xpB
set_option maxRecDepth 100000 in
set_option maxHeartbeats 3200000 in
theorem spec_PowerSum_any (p d k : Int) (w : World) :
 Calls Try.prog 19 #[.int .i64 p, .int .i64 d, .int .i64 k] w fun e w' => e = .returned (.tuple #[.agg (zb 64 (pqW p d k).1), .int .i64 (pqW p d k).2]) ∧ Below w.heap.size w w' := by
 go_enter Try.func19, Try.ntmps19
 go_upto_region 1 with (fail)
 rw [← z64]
 obtain ⟨W1, hwo⟩ : ∃ v : World, v = (w.alloc (.cells (zb 64 (fun _ => 0)) 23)) := ⟨_, rfl⟩
 have B0 : Blk W1 (w.heap.size) 64 23 (fun _ => 0) := by subst hwo; have := (Blk.new w 64 23 (fun _ => 0)); simpa using this
 have hb : Below w.heap.size w W1 := by subst hwo; exact ((Below.refl _ _).alloc (Nat.le_refl _) _)
 rw [← hwo]
 clear hwo
 rcases cdW_cases (p := p) (d := d) (k := k) with ⟨c, hc, hc0, hc12⟩ | ⟨hc, hp, hs, hx⟩
 · have HV := Lib.hid (pqW_c hc hc0)
   have hb1 : ((c : Int) != 0) = true := by simp [hc0]
   go_upto_region 2 with (first | (refine wpList_buildI rfl 42 _ k rfl 2 Try.underlying42 Try.elemInt rfl ?_; intro W2 hps hba; replace B0 := B0.zw hba; replace hb := hb.trans (hba.mono hb.size)) | (go_at_call 64; refine (l08Code_one p d k _ _ (row_one hps)).mono ?_; rintro e wS ⟨rfl, rfl⟩; rw [hc]))
   clear hps hba
   clear hc
   go_upto_region 3 with (fail)
   have lt_B0 := B0.lt
   go_wp2_with (first | rw [← z64] | (refine zsr (.tmp 6) (.tmp 18) (fun _ => 0) B0 Try.size23 ?_; try simp only [Act.put]; go_wp2_with fail))
   obtain ⟨W3, hwo, hzQ⟩ : ∃ v : World, v = (W2.setRow (w.heap.size) (zb 64 (fun _ => 0))) ∧ Blk v (w.heap.size) 64 23 (fun _ => 0) ∧ Below w.heap.size w v := ⟨_, rfl, (B0.row (fun _ => 0)), (zr hb (by omega) _)⟩
   rw [← hwo]
   clear hwo B0 hb
   obtain ⟨B0, hb⟩ := hzQ
   try simp only [Act.put, pA, pB, pC]
   refine bodyPost_ret (results_bt rfl _ _ _ 64 23 5 _ rfl B0 Try.underlying23 Try.size23) rfl ⟨by first | (rw [HV.out]; rfl) | rw [HV.out], hb⟩
 · obtain ⟨n, hn, n2, n7⟩ := okP_nat hp
   subst hn
   obtain ⟨d, rfl, hd8, hq3⟩ := sdB_yes hs
   obtain ⟨k, rfl, hk40⟩ := xpB_yes hx
   clear hx hs hp
   have mb0 : (0 : Int) ≤ (d : Int) * (k : Int) := Int.mul_nonneg (by omega) (by omega)
   have mb1 : (d : Int) * (k : Int) ≤ 320 := by
    have := Nat.mul_le_mul hd8 hk40
    have e : ((d * k : Nat) : Int) = (d : Int) * (k : Int) := by push_cast; rfl
    omega
   have HSU := Lib.hid (fun W => l08Sum_any n d k W n2 n7 hd8 hk40 hq3)
   by_cases hlim : (d : Int) * (k : Int) ≤ 63
   · have HV := Lib.hid (pqW_0 hc hlim)
     have HPV := Lib.hid (show psV n d k = (pwT n d k, true) by unfold psV; exact if_pos (by exact_mod_cast hlim))
     go_upto_region 2 with (first | (refine wpList_buildI rfl 42 _ (k : Int) rfl 2 Try.underlying42 Try.elemInt rfl ?_; intro W2 hps hba; replace B0 := B0.zw hba; replace hb := hb.trans (hba.mono hb.size)) | (go_at_call 64; refine (l08Code_one (n : Int) (d : Int) (k : Int) _ _ (row_one hps)).mono ?_; rintro e wS ⟨rfl, rfl⟩; rw [hc]))
     clear hps hba
     clear hc
     go_upto_region 4 with (fail)
     have lt_B0 := B0.lt
     go_upto_region 5 with (first | rw [← z64] | (go_at_call 65; refine (HSU.out _).mono ?_; rintro e W3 ⟨rfl, hW3⟩; replace B0 := B0.zw hW3; replace hb := (hb).trans (hW3.mono (hb).size); rw [HPV.out]) | (refine wpList_store_blk rfl 23 (.tmp 9) (.tmp 25) rfl _ 64 (pwT n d k) rfl rfl 23 _ ((Blk.new W3 64 23 (fun _ => 0))) Try.size23 ?_; try simp only [Act.put]; go_upto_region 5 with (fail)))
     have lt_B0 := B0.lt
     have lhb := hb.size
     obtain ⟨W4, hwo, hzQ⟩ : ∃ v : World, v = ((W3.alloc (.cells (zb 64 (fun _ => 0)) 23)).setRow (W3.heap.size) (zb 64 (pwT n d k))) ∧ Blk v (w.heap.size) 64 23 (fun _ => 0) ∧ Blk v (W3.heap.size) 64 23 (pwT n d k) ∧ Below w.heap.size w v := ⟨_, rfl, ((B0.alloc (.cells (zb 64 (fun _ => 0)) 23)).rowOther (by omega)), ((Blk.new W3 64 23 (fun _ => 0)).row (pwT n d k)), (zr (hb.alloc (by have := hb.size; simp; omega) (.cells (zb 64 (fun _ => 0)) 23)) (by omega) _)⟩
     rw [← hwo]
     clear hwo B0 hb
     obtain ⟨B0, B1, hb⟩ := hzQ
     obtain ⟨N1, hNN⟩ : ∃ n : Nat, n = W3.heap.size := ⟨_, rfl⟩
     rw [← hNN] at lt_B0 lhb B1 ⊢
     clear hNN
     have zN1_0 := lt_B0
     have zN1 := lhb
     clear lt_B0 lhb
     try simp only [Act.put, pA, pB, pC]
     go_upto_region 7 with (fail)
     have lt_B0 := B0.lt
     have lt_B1 := B1.lt
     go_wp2_with (first | rw [← z64] | (refine zla (.tmp 9) B1 Try.underlying23 Try.size23 ?_) | (refine zsr (.tmp 6) (.tmp 30) (pwT n d k) B0 Try.size23 ?_; try simp only [Act.put]; go_wp2_with fail))
     obtain ⟨W5, hwo, hzQ⟩ : ∃ v : World, v = (W4.setRow (w.heap.size) (zb 64 (pwT n d k))) ∧ Blk v (w.heap.size) 64 23 (pwT n d k) ∧ Blk v (N1) 64 23 (pwT n d k) ∧ Below w.heap.size w v := ⟨_, rfl, (B0.row (pwT n d k)), (B1.rowOther (by omega)), (zr hb (by omega) _)⟩
     rw [← hwo]
     clear hwo B0 B1 hb
     obtain ⟨B0, B1, hb⟩ := hzQ
     try simp only [Act.put, pA, pB, pC]
     refine bodyPost_ret (results_bt rfl _ _ _ 64 23 5 _ rfl B0 Try.underlying23 Try.size23) rfl ⟨by first | (rw [HV.out]; rfl) | rw [HV.out], hb⟩
   · have HV := Lib.hid (pqW_3 hc hlim)
     have HPV := Lib.hid (show psV n d k = (fun _ => 0, false) by unfold psV; exact if_neg (fun h => hlim (by exact_mod_cast h)))
     go_upto_region 2 with (first | (refine wpList_buildI rfl 42 _ (k : Int) rfl 2 Try.underlying42 Try.elemInt rfl ?_; intro W2 hps hba; replace B0 := B0.zw hba; replace hb := hb.trans (hba.mono hb.size)) | (go_at_call 64; refine (l08Code_one (n : Int) (d : Int) (k : Int) _ _ (row_one hps)).mono ?_; rintro e wS ⟨rfl, rfl⟩; rw [hc]))
     clear hps hba
     clear hc
     go_upto_region 4 with (fail)
     have lt_B0 := B0.lt
     go_upto_region 5 with (first | rw [← z64] | (go_at_call 65; refine (HSU.out _).mono ?_; rintro e W3 ⟨rfl, hW3⟩; replace B0 := B0.zw hW3; replace hb := (hb).trans (hW3.mono (hb).size); rw [HPV.out]) | (refine wpList_store_blk rfl 23 (.tmp 9) (.tmp 25) rfl _ 64 (fun _ => 0) rfl rfl 23 _ ((Blk.new W3 64 23 (fun _ => 0))) Try.size23 ?_; try simp only [Act.put]; go_upto_region 5 with (fail)))
     have lt_B0 := B0.lt
     have lhb := hb.size
     obtain ⟨W4, hwo, hzQ⟩ : ∃ v : World, v = ((W3.alloc (.cells (zb 64 (fun _ => 0)) 23)).setRow (W3.heap.size) (zb 64 (fun _ => 0))) ∧ Blk v (w.heap.size) 64 23 (fun _ => 0) ∧ Blk v (W3.heap.size) 64 23 (fun _ => 0) ∧ Below w.heap.size w v := ⟨_, rfl, ((B0.alloc (.cells (zb 64 (fun _ => 0)) 23)).rowOther (by omega)), ((Blk.new W3 64 23 (fun _ => 0)).row (fun _ => 0)), (zr (hb.alloc (by have := hb.size; simp; omega) (.cells (zb 64 (fun _ => 0)) 23)) (by omega) _)⟩
     rw [← hwo]
     clear hwo B0 hb
     obtain ⟨B0, B1, hb⟩ := hzQ
     obtain ⟨N1, hNN⟩ : ∃ n : Nat, n = W3.heap.size := ⟨_, rfl⟩
     rw [← hNN] at lt_B0 lhb B1 ⊢
     clear hNN
     have zN1_0 := lt_B0
     have zN1 := lhb
     clear lt_B0 lhb
     try simp only [Act.put, pA, pB, pC]
     go_upto_region 6 with (fail)
     have lt_B0 := B0.lt
     have lt_B1 := B1.lt
     go_wp2_with (first | rw [← z64] | (refine zsr (.tmp 6) (.tmp 29) (fun _ => 0) B0 Try.size23 ?_; try simp only [Act.put]; go_wp2_with fail))
     obtain ⟨W5, hwo, hzQ⟩ : ∃ v : World, v = (W4.setRow (w.heap.size) (zb 64 (fun _ => 0))) ∧ Blk v (w.heap.size) 64 23 (fun _ => 0) ∧ Blk v (N1) 64 23 (fun _ => 0) ∧ Below w.heap.size w v := ⟨_, rfl, (B0.row (fun _ => 0)), (B1.rowOther (by omega)), (zr hb (by omega) _)⟩
     rw [← hwo]
     clear hwo B0 B1 hb
     obtain ⟨B0, B1, hb⟩ := hzQ
     try simp only [Act.put, pA, pB, pC]
     refine bodyPost_ret (results_bt rfl _ _ _ 64 23 5 _ rfl B0 Try.underlying23 Try.size23) rfl ⟨by first | (rw [HV.out]; rfl) | rw [HV.out], hb⟩
end Go.Proofs.Ytobcdekochenfaa
end
section
namespace Go.Proofs.Ytobcdekochenfaa
open Go Go.RowKit
set_option linter.unusedVariables false
set_option linter.unusedSimpArgs false
set_option maxRecDepth 100000 in
set_option maxHeartbeats 1600000 in
theorem FnExactPowerSum_walk (p : Int) (d : Int) (k : Int)  (w : World) :
 Calls Try.prog 3 #[.int .i64 p, .int .i64 d, .int .i64 k] w fun e w' => e = .returned (.bool true) ∧ Below w.heap.size w w' := by
 go_enter Try.func3, Try.ntmps3
 go_upto_region 1 with (fail)
 have hb : Below w.heap.size w w := Below.refl _ _
 have hne1 : (((pqW p d k).2) != ((pqW p d k).2)) = false := by simp
 go_upto_region 2 with (first | rw [← z64] | (go_at_call 19; refine (spec_PowerSum_any p d k _).mono ?_; rintro e W1 ⟨rfl, hW1⟩; replace hb := (hb).trans (hW1.mono (hb).size)) | (refine wpList_store_blk rfl 23 (.tmp 7) (.tmp 16) rfl _ 64 ((pqW p d k).1) rfl rfl 23 _ ((Blk.new W1 64 23 (fun _ => 0))) Try.size23 ?_; try simp only [Act.put]; go_upto_region 2 with (fail)))
 have lhb := hb.size
 obtain ⟨W2, hwo, hzQ⟩ : ∃ v : World, v = ((W1.alloc (.cells (zb 64 (fun _ => 0)) 23)).setRow (W1.heap.size) (zb 64 ((pqW p d k).1))) ∧ Blk v (W1.heap.size) 64 23 ((pqW p d k).1) ∧ Below w.heap.size w v := ⟨_, rfl, ((Blk.new W1 64 23 (fun _ => 0)).row ((pqW p d k).1)), (zr (hb.alloc (by have := hb.size; simp; omega) (.cells (zb 64 (fun _ => 0)) 23)) (by omega) _)⟩
 rw [← hwo]
 clear hwo hb
 obtain ⟨B0, hb⟩ := hzQ
 obtain ⟨N1, hNN⟩ : ∃ n : Nat, n = W1.heap.size := ⟨_, rfl⟩
 rw [← hNN] at  lhb B0 ⊢
 clear hNN
 have zN1 := lhb
 clear  lhb
 try simp only [Act.put, pA, pB, pC]
 have lt_B0 := B0.lt
 go_upto_region 3 with (first | rw [← z64] | (go_at_call 20; refine (impl_PowerSum_any p d k _).mono ?_; rintro e W3 ⟨rfl, hW3⟩; replace B0 := B0.zw hW3; replace hb := (hb).trans (hW3.mono (hb).size)) | (refine wpList_store_blk rfl 23 (.tmp 9) (.tmp 23) rfl _ 64 ((pqW p d k).1) rfl rfl 23 _ ((Blk.new W3 64 23 (fun _ => 0))) Try.size23 ?_; try simp only [Act.put]; go_upto_region 3 with (fail)))
 have lt_B0 := B0.lt
 have lhb := hb.size
 obtain ⟨W4, hwo, hzQ⟩ : ∃ v : World, v = ((W3.alloc (.cells (zb 64 (fun _ => 0)) 23)).setRow (W3.heap.size) (zb 64 ((pqW p d k).1))) ∧ Blk v (N1) 64 23 ((pqW p d k).1) ∧ Blk v (W3.heap.size) 64 23 ((pqW p d k).1) ∧ Below w.heap.size w v := ⟨_, rfl, ((B0.alloc (.cells (zb 64 (fun _ => 0)) 23)).rowOther (by omega)), ((Blk.new W3 64 23 (fun _ => 0)).row ((pqW p d k).1)), (zr (hb.alloc (by have := hb.size; simp; omega) (.cells (zb 64 (fun _ => 0)) 23)) (by omega) _)⟩
 rw [← hwo]
 clear hwo B0 hb
 obtain ⟨B0, B1, hb⟩ := hzQ
 obtain ⟨N2, hNN⟩ : ∃ n : Nat, n = W3.heap.size := ⟨_, rfl⟩
 rw [← hNN] at lt_B0 lhb B1 ⊢
 clear hNN
 have zN2_0 := lt_B0
 have zN2 := lhb
 clear lt_B0 lhb
 try simp only [Act.put, pA, pB, pC]
 go_wp2_with (first | (refine zla (.tmp 9) B1 Try.underlying23 Try.size23 ?_) | (refine zla (.tmp 7) B0 Try.underlying23 Try.size23 ?_) | (go_at_call 21; refine (eqPoly_same _ _ (fun _ _ => rfl) _).mono ?_; rintro e W5 ⟨rfl, hW5⟩; replace B0 := B0.zw hW5; replace B1 := B1.zw hW5; replace hb := (hb).trans (hW5.mono (hb).size)))
 go_ret
 exact ⟨rfl, hb⟩
end Go.Proofs.Ytobcdekochenfaa
end
