/-
  What the rows of this claim rest on: arrays of bytes, walks of the functions, plain mathematics.
-/
import Derived.Test.YtoncepgcfifgbaaZf6
import Derived.WalkKit
import Derived.WalkSpells
import Derived.WalkLawsBesides
import Derived.Lib.Hide
import Derived.Laws.Rows
import Derived.Laws.CopyOwn
import Derived.Deep.QuietTactic
import Derived.Deep.WholeRow
import Derived.Deep.Draws
import Derived.Deep.MidRow
import Derived.Deep.CutRange
import Derived.Deep.DeepCutAuto
import Derived.Deep.RegionHeld3
import Derived.BigQuiet
import Derived.BigRegion
import Derived.Test.YtoncepgcfifgbaaRows
import Derived.Great.BuildSlice
import Derived.Laws.Tables
import Derived.Laws.StructEq
import Derived.ScopeJumps
import Derived.Deep.CutBlock
import Derived.OwnWalk
import Derived.RangeFuncNested
import Derived.RangeFuncBound
import Derived.RangeFuncCalls
import Derived.RangeFuncLeaves
import Derived.Shelf.Abstract
import Derived.Shelf.RegionOpen
import Derived.OwnWalkIn
import Derived.TacticsInMore
import Derived.LoopNIn
import Derived.LoopIn
import Derived.Maps.OwnOps
import Derived.DeepKeys4
import Derived.Carry
import Derived.Test.YtoncepgcfifgbaaProg
section
namespace Go.Proofs.Ytoncepgcfifgbaa
open Go Go.RowKit
set_option linter.unusedVariables false
set_option linter.unusedSimpArgs false
attribute [local irreducible] deg invN quoP resP prd bzD bzU bzW sqP ngP mkP okA monB dvN
set_option maxRecDepth 100000 in
set_option maxHeartbeats 3200000 in
theorem spec_IsDiscriminant_any (p : Int) (D : Nat → Nat) (hD : byte D) (w : World) :
 Calls Try.prog 57 #[.int .i64 p, .agg (zb 64 D)] w fun e w' => e = .returned (.bool (dcB p D)) ∧ Below w.heap.size w w' := by
 have HIS := Lib.hid (fun W => l07Is_any p D hD W)
 go_enter Try.func57, Try.ntmps57
 go_upto_region 1 with (fail)
 obtain ⟨W1, hwo⟩ : ∃ v : World, v = (w.alloc (.cells (zb 64 (D)) 23)) := ⟨_, rfl⟩
 have B0 : Blk W1 (w.heap.size) 64 23 (D) := by subst hwo; have := (Blk.new w 64 23 (D)); simpa using this
 have hb : Below w.heap.size w W1 := by subst hwo; exact ((Below.refl _ _).alloc (Nat.le_refl _) _)
 rw [← hwo]
 clear hwo
 go_wp2_with (first | (refine zla (.tmp 3) B0 Try.underlying23 Try.size23 ?_) | (go_at_call 124; refine (HIS.out _).mono ?_; rintro e W2 ⟨rfl, hW2⟩; replace B0 := B0.zw hW2; replace hb := (hb).trans (hW2.mono (hb).size)))
 go_ret
 exact ⟨rfl, hb⟩
end Go.Proofs.Ytoncepgcfifgbaa
end
section
namespace Go.Proofs.Ytoncepgcfifgbaa
open Go Go.RowKit
set_option linter.unusedVariables false
set_option linter.unusedSimpArgs false
attribute [local irreducible] deg invN quoP resP prd bzD bzU bzW sqP ngP mkP okA monB dvN rdR
set_option maxRecDepth 100000 in
set_option maxHeartbeats 1600000 in
theorem FnExactIsDiscriminant_walk (p : Int) (D : Nat → Nat) (hD : byte D) (w : World) :
 Calls Try.prog 15 #[.int .i64 p, .agg (zb 64 D)] w fun e w' => e = .returned (.bool true) ∧ Below w.heap.size w w' := by
 have HPD := Lib.hid (fun W => toPoly_any D hD W)
 have HS := Lib.hid (fun W => spec_IsDiscriminant_any p D hD W)
 have HI := Lib.hid (fun W => impl_IsDiscriminant_any p D hD W)
 obtain ⟨Vb, hV⟩ : ∃ Vb, Vb = (dcB p D) := ⟨_, rfl⟩
 rw [← hV] at HS HI
 have hne : (Vb != Vb) = false := by simp
 clear hV
 go_enter Try.func15, Try.ntmps15
 go_upto_region 1 with (fail)
 obtain ⟨W1, hwo⟩ : ∃ v : World, v = (w.alloc (.cells (zb 64 (D)) 22)) := ⟨_, rfl⟩
 have B0 : Blk W1 (w.heap.size) 64 22 (D) := by subst hwo; have := (Blk.new w 64 22 (D)); simpa using this
 have hb : Below w.heap.size w W1 := by subst hwo; exact ((Below.refl _ _).alloc (Nat.le_refl _) _)
 rw [← hwo]
 clear hwo
 go_upto_region 2 with (first | (refine zla (.tmp 3) B0 Try.underlying22 Try.size22 ?_) | (go_at_call 26; refine (HPD.out _).mono ?_; rintro e W2 ⟨rfl, hW2⟩; replace B0 := B0.zw hW2; replace hb := (hb).trans (hW2.mono (hb).size)) | (go_at_call 57; refine (HS.out _).mono ?_; rintro e W3 ⟨rfl, hW3⟩; replace B0 := B0.zw hW3; replace hb := (hb).trans (hW3.mono (hb).size)))
 go_upto_region 3 with (first | (refine zla (.tmp 3) B0 Try.underlying22 Try.size22 ?_) | (go_at_call 26; refine (HPD.out _).mono ?_; rintro e W4 ⟨rfl, hW4⟩; replace B0 := B0.zw hW4; replace hb := (hb).trans (hW4.mono (hb).size)) | (go_at_call 58; refine (HI.out _).mono ?_; rintro e W5 ⟨rfl, hW5⟩; replace B0 := B0.zw hW5; replace hb := (hb).trans (hW5.mono (hb).size)))
 go_wp2_with fail
 go_ret
 exact ⟨rfl, hb⟩
end Go.Proofs.Ytoncepgcfifgbaa
end
