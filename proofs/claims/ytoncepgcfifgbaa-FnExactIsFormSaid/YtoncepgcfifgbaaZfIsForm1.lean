/-
  What the rows of this claim rest on: arrays of bytes, walks of the functions, plain mathematics.
-/
import Derived.Test.YtoncepgcfifgbaaZf6
import Derived.WalkKit
import Derived.WalkSpells
import Derived.WalkLawsBesides
import Derived.Lib.Hide
import Derived.Laws.Rows
import Derived.Laws.CopyOwn
import Derived.Deep.QuietTactic
import Derived.Deep.WholeRow
import Derived.Deep.Draws
import Derived.Deep.MidRow
import Derived.Deep.CutRange
import Derived.Deep.DeepCutAuto
import Derived.Deep.RegionHeld3
import Derived.BigQuiet
import Derived.BigRegion
import Derived.Test.YtoncepgcfifgbaaRows
import Derived.Great.BuildSlice
import Derived.Laws.Tables
import Derived.Laws.StructEq
import Derived.ScopeJumps
import Derived.Deep.CutBlock
import Derived.OwnWalk
import Derived.RangeFuncNested
import Derived.RangeFuncBound
import Derived.RangeFuncCalls
import Derived.RangeFuncLeaves
import Derived.Shelf.Abstract
import Derived.Shelf.RegionOpen
import Derived.OwnWalkIn
import Derived.TacticsInMore
import Derived.LoopNIn
import Derived.LoopIn
import Derived.Maps.OwnOps
import Derived.DeepKeys4
import Derived.Carry
import Derived.Test.YtoncepgcfifgbaaProg
section
namespace Go.Proofs.Ytoncepgcfifgbaa
open Go Go.RowKit
set_option linter.unusedVariables false
set_option linter.unusedSimpArgs false
attribute [local irreducible] deg invN quoP resP prd bzD bzU bzW sqP ngP mkP okA monB dvN
set_option maxRecDepth 100000 in
set_option maxHeartbeats 3200000 in
theorem spec_IsForm_any (p : Int) (D A B : Nat → Nat) (hD : byte D) (hA : byte A) (hB : byte B) (w : World) :
 Calls Try.prog 59 #[.int .i64 p, .agg (zb 64 D), .agg (frC A B).toArray] w fun e w' => e = .returned (.bool (dcB p D && fmB p D A B)) ∧ Below w.heap.size w w' := by
 have HDC := Lib.hid (fun W => l07Is_any p D hD W)
 go_enter Try.func59, Try.ntmps59
 go_upto_region 1 with (fail)
 obtain ⟨W1, hwo⟩ : ∃ v : World, v = ((w.alloc (.cells (zb 64 (D)) 23)).alloc (.cells (frC A B).toArray 55)) := ⟨_, rfl⟩
 have B0 : Blk W1 (w.heap.size) 64 23 (D) := by subst hwo; have := ((Blk.new w 64 23 (D)).alloc (.cells (frC A B).toArray 55)); simpa using this
 have B1 : Row W1 (w.heap.size + 1) 55 (frC A B).toArray := by subst hwo; have := (Row.new (w.alloc (.cells (zb 64 (D)) 23)) 55 (frC A B).toArray); simpa using this
 have hb : Below w.heap.size w W1 := by subst hwo; exact (((Below.refl _ _).alloc (Nat.le_refl _) _).alloc (by simp) _)
 rw [← hwo]
 clear hwo
 cases hdc : dcB p D with
 | false =>
  have HV := Lib.hid (show (dcB p D && fmB p D A B) = false by rw [hdc]; rfl)
  rw [hdc] at HDC
  go_wp2_with (first | (refine zla (.tmp 4) B0 Try.underlying23 Try.size23 ?_) | (go_at_call 124; refine (HDC.out _).mono ?_; rintro e W2 ⟨rfl, hW2⟩; replace B0 := B0.zw hW2; replace B1 := B1.zw hW2; replace hb := (hb).trans (hW2.mono (hb).size)))
  go_ret
  exact ⟨by rw [HV.out]; rfl, hb⟩
 | true =>
  obtain ⟨n, g, rfl, hpr, lD, _, _⟩ := dcB_out hdc
  rw [hdc] at HDC
  have HFM := Lib.hid (fun W => l07Form_any n D A B W hpr lD hA hB)
  go_wp2_with (first | (refine zla (.tmp 4) B0 Try.underlying23 Try.size23 ?_) | (go_at_call 124; refine (HDC.out _).mono ?_; rintro e W2 ⟨rfl, hW2⟩; replace B0 := B0.zw hW2; replace B1 := B1.zw hW2; replace hb := (hb).trans (hW2.mono (hb).size)) | (refine zlg rfl 23 (.tmp 4) rfl _ rfl 64 23 _ (B0) _ Try.underlying23 rfl Try.size23 ?_) | (refine wpList_load_rowv_g rfl 55 (.tmp 5) rfl _ rfl 55 (frC A B).toArray (B1) _ Try.underlying55 rfl 128 Try.size55 (by simp [frC_len]) ?_) | (go_at_call 125; refine (HFM.out _).mono ?_; rintro e W3 ⟨rfl, hW3⟩; replace B0 := B0.zw hW3; replace B1 := B1.zw hW3; replace hb := (hb).trans (hW3.mono (hb).size)))
  go_ret
  exact ⟨by rw [hdc]; rfl, hb⟩
end Go.Proofs.Ytoncepgcfifgbaa
end
section
namespace Go.Proofs.Ytoncepgcfifgbaa
open Go Go.RowKit
set_option linter.unusedVariables false
set_option linter.unusedSimpArgs false
attribute [local irreducible] deg invN quoP resP prd bzD bzU bzW sqP ngP mkP okA monB dvN rdR
set_option maxRecDepth 100000 in
set_option maxHeartbeats 1600000 in
theorem FnExactIsForm_walk (p : Int) (D : Nat → Nat) (A B : Nat → Nat) (hD : byte D) (hA : byte A) (hB : byte B) (w : World) :
 Calls Try.prog 16 #[.int .i64 p, .agg (zb 64 D), .agg (frC A B).toArray] w fun e w' => e = .returned (.bool true) ∧ Below w.heap.size w w' := by
 have HPD := Lib.hid (fun W => toPoly_any D hD W)
 have HFA := Lib.hid (fun W => toForm_any A B hA hB W)
 have HS := Lib.hid (fun W => spec_IsForm_any p D A B hD hA hB W)
 have HI := Lib.hid (fun W => impl_IsForm_any p D A B hD hA hB W)
 obtain ⟨Vb, hV⟩ : ∃ Vb, Vb = (dcB p D && fmB p D A B) := ⟨_, rfl⟩
 rw [← hV] at HS HI
 have hne : (Vb != Vb) = false := by simp
 clear hV
 go_enter Try.func16, Try.ntmps16
 go_upto_region 1 with (fail)
 obtain ⟨W1, hwo⟩ : ∃ v : World, v = ((w.alloc (.cells (zb 64 (D)) 22)).alloc (.cells (frC A B).toArray 52)) := ⟨_, rfl⟩
 have B0 : Blk W1 (w.heap.size) 64 22 (D) := by subst hwo; have := ((Blk.new w 64 22 (D)).alloc (.cells (frC A B).toArray 52)); simpa using this
 have B1 : Row W1 (w.heap.size + 1) 52 (frC A B).toArray := by subst hwo; have := (Row.new (w.alloc (.cells (zb 64 (D)) 22)) 52 (frC A B).toArray); simpa using this
 have hb : Below w.heap.size w W1 := by subst hwo; exact (((Below.refl _ _).alloc (Nat.le_refl _) _).alloc (by simp) _)
 rw [← hwo]
 clear hwo
 refine zq Try.mixed (by kernel_rfl) (by kernel_rfl) (fun v => by (simp only [frL, Act.put, pA, pB, pC, Nat.reduceAdd, Nat.zero_add]; exact rfl))
  (fun L v W2 => Below W1.heap.size W1 W2 ∧ VF L v [some (.int .i64 p), some (.agg (zb 64 (D))), some (.agg (zb 64 (D))), some (.agg (frC A B).toArray), some (.agg (frC A B).toArray), some (.bool Vb), some (.bool Vb)]) ?_ ?_ ?_
 · intro v hv0
   exact ⟨(Below.refl _ W1).drew, VF.start⟩
 · refine (.cons rfl ?_ (.cons rfl ?_ (.cons rfl ?_ (.cons rfl ?_ (.cons rfl ?_ (.cons rfl ?_ (.cons rfl ?_ (.nil _))))))))
   all_goals intro L v W2 hd hn ⟨hY, V⟩ K hK
   · go_wp2_with fail
     exact hK _ (.int .i64 p) _ (by simp only [Act.put, pA, pB, pC ]) ⟨hY, V.step 0 rfl⟩
   · refine zlc (B0.zw hY) Try.underlying22 Try.size22 ?_
     exact hK _ _ _ rfl ⟨hY, V.step 1 rfl⟩
   · have e1 := V.at (zdq hd 1 rfl) rfl
     go_wp2_with (go_at_call 26; refine (HPD.out _).mono ?_; rintro e wy ⟨rfl, hy⟩)
     exact hK _ (.agg (zb 64 (D))) _ (by simp only [Act.put, pA, pB, pC, e1]) ⟨hY.trans (hy.mono hY.size), V.step 2 rfl⟩
   · refine wp_load_rowv 52 _ rfl _ rfl 52 _ (B1.zw hY) _ Try.underlying52 rfl 128 Try.size52 (by simp [frC_len]) ?_
     exact hK _ _ _ rfl ⟨hY, V.step 3 rfl⟩
   · have e3 := V.at (zdq hd 3 rfl) rfl
     go_wp2_with (go_at_call 60; refine (HFA.out _).mono ?_; rintro e wy ⟨rfl, hy⟩)
     exact hK _ (.agg (frC A B).toArray) _ (by simp only [Act.put, pA, pB, pC, e3]) ⟨hY.trans (hy.mono hY.size), V.step 4 rfl⟩
   · have e0 := V.at (zdq hd 0 rfl) rfl
     have e2 := V.at (zdq hd 2 rfl) rfl
     have e4 := V.at (zdq hd 4 rfl) rfl
     go_wp2_with (go_at_call 59; refine (HS.out _).mono ?_; rintro e wy ⟨rfl, hy⟩)
     exact hK _ (.bool Vb) _ (by simp only [Act.put, pA, pB, pC, e0, e2, e4]) ⟨hY.trans (hy.mono hY.size), V.step 5 rfl⟩
   · have e5 := V.at (zdq hd 5 rfl) rfl
     go_wp2_with fail
     exact hK _ (.bool Vb) _ (by simp only [Act.put, pA, pB, pC, e5]) ⟨hY, V.step 6 rfl⟩
 · intro L v W2 hL ⟨hY, V⟩
   have e0 := V.at (hL 0 (by decide)) rfl
   have e1 := V.at (hL 1 (by decide)) rfl
   have e2 := V.at (hL 2 (by decide)) rfl
   have e3 := V.at (hL 3 (by decide)) rfl
   have e4 := V.at (hL 4 (by decide)) rfl
   have e5 := V.at (hL 5 (by decide)) rfl
   have e6 := V.at (hL 6 (by decide)) rfl
   clear hL V
   replace B0 := B0.zw hY
   replace B1 := B1.zw hY
   replace hb := hb.trans (hY.mono hb.size)
   clear hY
   simp only [Exit.then, e0, e1, e2, e3, e4, e5, e6]
   clear e0 e1 e2 e3 e4 e5 e6
   go_upto_region 2 with (fail)
   refine zq Try.mixed (by kernel_rfl) (by kernel_rfl) (fun v => by (simp only [frL, Act.put, pA, pB, pC, Nat.reduceAdd, Nat.zero_add]; exact rfl))
    (fun L v W3 => Below W2.heap.size W2 W3 ∧ VF L v [some (.int .i64 p), some (.agg (zb 64 (D))), some (.agg (zb 64 (D))), some (.agg (frC A B).toArray), some (.agg (frC A B).toArray), some (.bool Vb), some (.bool Vb)]) ?_ ?_ ?_
   · intro v hv0
     exact ⟨(Below.refl _ W2).drew, VF.start⟩
   · refine (.cons rfl ?_ (.cons rfl ?_ (.cons rfl ?_ (.cons rfl ?_ (.cons rfl ?_ (.cons rfl ?_ (.cons rfl ?_ (.nil _))))))))
     all_goals intro L v W3 hd hn ⟨hY, V⟩ K hK
     · go_wp2_with fail
       exact hK _ (.int .i64 p) _ (by simp only [Act.put, pA, pB, pC ]) ⟨hY, V.step 0 rfl⟩
     · refine zlc (B0.zw hY) Try.underlying22 Try.size22 ?_
       exact hK _ _ _ rfl ⟨hY, V.step 1 rfl⟩
     · have e1 := V.at (zdq hd 1 rfl) rfl
       go_wp2_with (go_at_call 26; refine (HPD.out _).mono ?_; rintro e wy ⟨rfl, hy⟩)
       exact hK _ (.agg (zb 64 (D))) _ (by simp only [Act.put, pA, pB, pC, e1]) ⟨hY.trans (hy.mono hY.size), V.step 2 rfl⟩
     · refine wp_load_rowv 52 _ rfl _ rfl 52 _ (B1.zw hY) _ Try.underlying52 rfl 128 Try.size52 (by simp [frC_len]) ?_
       exact hK _ _ _ rfl ⟨hY, V.step 3 rfl⟩
     · have e3 := V.at (zdq hd 3 rfl) rfl
       go_wp2_with (go_at_call 60; refine (HFA.out _).mono ?_; rintro e wy ⟨rfl, hy⟩)
       exact hK _ (.agg (frC A B).toArray) _ (by simp only [Act.put, pA, pB, pC, e3]) ⟨hY.trans (hy.mono hY.size), V.step 4 rfl⟩
     · have e0 := V.at (zdq hd 0 rfl) rfl
       have e2 := V.at (zdq hd 2 rfl) rfl
       have e4 := V.at (zdq hd 4 rfl) rfl
       go_wp2_with (go_at_call 61; refine (HI.out _).mono ?_; rintro e wy ⟨rfl, hy⟩)
       exact hK _ (.bool Vb) _ (by simp only [Act.put, pA, pB, pC, e0, e2, e4]) ⟨hY.trans (hy.mono hY.size), V.step 5 rfl⟩
     · have e5 := V.at (zdq hd 5 rfl) rfl
       go_wp2_with fail
       exact hK _ (.bool Vb) _ (by simp only [Act.put, pA, pB, pC, e5]) ⟨hY, V.step 6 rfl⟩
   · intro L v W3 hL ⟨hY, V⟩
     have e0 := V.at (hL 0 (by decide)) rfl
     have e1 := V.at (hL 1 (by decide)) rfl
     have e2 := V.at (hL 2 (by decide)) rfl
     have e3 := V.at (hL 3 (by decide)) rfl
     have e4 := V.at (hL 4 (by decide)) rfl
     have e5 := V.at (hL 5 (by decide)) rfl
     have e6 := V.at (hL 6 (by decide)) rfl
     clear hL V
     replace B0 := B0.zw hY
     replace B1 := B1.zw hY
     replace hb := hb.trans (hY.mono hb.size)
     clear hY
     simp only [Exit.then, e0, e1, e2, e3, e4, e5, e6]
     clear e0 e1 e2 e3 e4 e5 e6
     go_upto_region 3 with (fail)
     go_wp2_with fail
     go_ret
     exact ⟨rfl, hb⟩
end Go.Proofs.Ytoncepgcfifgbaa
end
