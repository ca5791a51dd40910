/-
  What the rows of this claim rest on: arrays of bytes, walks of the functions, plain mathematics.
-/
import Derived.Test.YtoncepgcfifgbaaZh5
import Derived.WalkKit
import Derived.WalkSpells
import Derived.WalkLawsBesides
import Derived.Lib.Hide
import Derived.Laws.Rows
import Derived.Laws.CopyOwn
import Derived.Deep.QuietTactic
import Derived.Deep.WholeRow
import Derived.Deep.Draws
import Derived.Deep.MidRow
import Derived.Deep.CutRange
import Derived.Deep.DeepCutAuto
import Derived.Deep.RegionHeld3
import Derived.BigQuiet
import Derived.BigRegion
import Derived.Test.YtoncepgcfifgbaaRows
import Derived.Great.BuildSlice
import Derived.Laws.Tables
import Derived.Laws.StructEq
import Derived.ScopeJumps
import Derived.Deep.CutBlock
import Derived.OwnWalk
import Derived.RangeFuncNested
import Derived.RangeFuncBound
import Derived.RangeFuncCalls
import Derived.RangeFuncLeaves
import Derived.Shelf.Abstract
import Derived.Shelf.RegionOpen
import Derived.OwnWalkIn
import Derived.TacticsInMore
import Derived.LoopNIn
import Derived.LoopIn
import Derived.Maps.OwnOps
import Derived.DeepKeys4
import Derived.Carry
import Derived.Test.YtoncepgcfifgbaaProg
import Derived.WalkMore
section
namespace Go.Proofs.Ytoncepgcfifgbaa
open Go Go.RowKit
set_option linter.unusedVariables false
set_option linter.unusedSimpArgs false
attribute [local irreducible] deg invN quoP resP prd bzD bzU bzW sqP ofN rowF degF allF frC
theorem SlL.shapeF {w : World} {base : Nat} {e : TypeId} {size : Nat} {v : Value} {L : List ((Nat → Nat) × (Nat → Nat))} (h : SlL w base e size v (frRows L)) : ∃ a cap, v = .slice a L.length cap := by
 rcases h.shape with ⟨h1, h2⟩ | ⟨g, cap, h1⟩
 · have h3 := congrArg List.length h2
   rw [frRows_len] at h3
   exact ⟨_, _, by rw [h1, show L.length = 0 from h3]⟩
 · exact ⟨_, _, by rw [h1, frRows_len]⟩
set_option maxRecDepth 100000 in
set_option maxHeartbeats 3200000 in
theorem impl_ClassNumber_any (p : Int) (D : Nat → Nat) (hD : byte D) (w : World) (HFD : ∀ (n g m : Nat) (W : World), dcB (n : Int) D = true → deg D = ((2 * g + 1 : Nat) : Int) → m ≤ g → Calls Try.prog 170 #[.agg (fdC (n : Int) D).toArray, .int .i64 (m : Int)] W (FoD n D m W)) :
 Calls Try.prog 71 #[.int .i64 p, .agg (zb 64 D)] w fun e w' => e = .returned (.tuple #[.int .i64 (((rfV p D).1.length : Nat) : Int), .int .i64 (rfV p D).2]) ∧ Below w.heap.size w w' := by
 have hlen := rfV_len p D
 have HRF := Lib.hid (fun W => impl_ReducedForms_any p D hD W HFD)
 go_enter Try.func71, Try.ntmps71
 go_upto_region 1 with (fail)
 obtain ⟨W1, hwo⟩ : ∃ v : World, v = (w.alloc (.cells (zb 64 (D)) 23)) := ⟨_, rfl⟩
 have B0 : Blk W1 (w.heap.size) 64 23 (D) := by subst hwo; have := (Blk.new w 64 23 (D)); simpa using this
 have hb : Below w.heap.size w W1 := by subst hwo; exact ((Below.refl _ _).alloc (Nat.le_refl _) _)
 rw [← hwo]
 clear hwo
 go_upto_region 2 with (first | (refine zla (.tmp 3) B0 Try.underlying23 Try.size23 ?_) | (go_at_call 66; refine (HRF.out _).mono ?_; rintro e W9 ⟨v2, rfl, S2, h2⟩; have ehb := hb.trans (h2.mono hb.size)))
 obtain ⟨a2, cap2, rfl⟩ := S2.shapeF
 go_wp2_with fail
 go_ret2
 exact ⟨rfl, ehb⟩
set_option maxRecDepth 100000 in
set_option maxHeartbeats 3200000 in
theorem spec_ClassNumber_any (p : Int) (D : Nat → Nat) (hD : byte D) (w : World)  :
 Calls Try.prog 70 #[.int .i64 p, .agg (zb 64 D)] w fun e w' => e = .returned (.tuple #[.int .i64 (((rfV p D).1.length : Nat) : Int), .int .i64 (rfV p D).2]) ∧ Below w.heap.size w w' := by
 have hlen := rfV_len p D
 have HDC := Lib.hid (fun W => l07Is_any p D hD W)
 go_enter Try.func70, Try.ntmps70
 go_upto_region 1 with (fail)
 obtain ⟨W1, hwo⟩ : ∃ v : World, v = (w.alloc (.cells (zb 64 (D)) 23)) := ⟨_, rfl⟩
 have B0 : Blk W1 (w.heap.size) 64 23 (D) := by subst hwo; have := (Blk.new w 64 23 (D)); simpa using this
 have hb : Below w.heap.size w W1 := by subst hwo; exact ((Below.refl _ _).alloc (Nat.le_refl _) _)
 rw [← hwo]
 clear hwo
 cases hf : dcB p D with
 | false =>
  have HV := Lib.hid (rfV_1 hf)
  go_wp2_with (first | (refine zla (.tmp 3) B0 Try.underlying23 Try.size23 ?_) | (go_at_call 124; refine (HDC.out _).mono ?_; rintro e W2 ⟨rfl, hW2⟩; replace B0 := B0.zw hW2; replace hb := (hb).trans (hW2.mono (hb).size); rw [hf]))
  go_ret2
  exact ⟨by rw [HV.out]; rfl, hb⟩
 | true =>
  obtain ⟨n, g, rfl, hpr, lD, hg2, hdg⟩ := dcB_out hf
  have HV := Lib.hid (rfV_0 hf hdg)
  have HRF := Lib.hid (fun W => l07All_any n g D W hpr lD hdg hg2)
  rw [HV.out] at hlen
  have hlen2 : (allF n D (g + 1)).length ≤ 3000 := hlen
  clear hlen
  go_upto_region 3 with (first | (refine zla (.tmp 3) B0 Try.underlying23 Try.size23 ?_) | (go_at_call 124; refine (HDC.out _).mono ?_; rintro e W2 ⟨rfl, hW2⟩; replace B0 := B0.zw hW2; replace hb := (hb).trans (hW2.mono (hb).size); rw [hf]))
  go_wp2_with (first | (refine zla (.tmp 3) B0 Try.underlying23 Try.size23 ?_) | (go_at_call 131; refine (HRF.out _).mono ?_; rintro e W9 ⟨v2, rfl, S2, h2⟩; have ehb := hb.trans (h2.mono hb.size); obtain ⟨a2, cap2, rfl⟩ := S2.shapeF))
  go_ret2
  exact ⟨by rw [HV.out]; rfl, ehb⟩
end Go.Proofs.Ytoncepgcfifgbaa
end
section
namespace Go.Proofs.Ytoncepgcfifgbaa
open Go Go.RowKit
set_option linter.unusedVariables false
set_option linter.unusedSimpArgs false
set_option maxRecDepth 100000 in
set_option maxHeartbeats 1600000 in
theorem FnExactClassNumber_walkH (p : Int) (f : Nat → Nat) (hf : byte f) (w : World) (HFD : ∀ (n g m : Nat) (W : World), dcB (n : Int) f = true → deg f = ((2 * g + 1 : Nat) : Int) → m ≤ g → Calls Try.prog 170 #[.agg (fdC (n : Int) f).toArray, .int .i64 (m : Int)] W (FoD n f m W)) :
 Calls Try.prog 19 #[.int .i64 p, .agg (zb 64 f)] w fun e w' => e = .returned (.bool true) ∧ Below w.heap.size w w' := by
 have HI := Lib.hid (fun W => impl_ClassNumber_any p f hf W HFD)
 clear HFD
 go_enter Try.func19, Try.ntmps19
 go_upto_region 1 with (fail)
 obtain ⟨W1, hwo⟩ : ∃ v : World, v = (w.alloc (.cells (zb 64 (f)) 22)) := ⟨_, rfl⟩
 have B0 : Blk W1 (w.heap.size) 64 22 (f) := by subst hwo; have := (Blk.new w 64 22 (f)); simpa using this
 have hb : Below w.heap.size w W1 := by subst hwo; exact ((Below.refl _ _).alloc (Nat.le_refl _) _)
 rw [← hwo]
 clear hwo
 have hne0 : ((((rfV p f).1.length : Nat)) != (((rfV p f).1.length : Nat))) = false := by simp
 have hne1 : (((rfV p f).2) != ((rfV p f).2)) = false := by simp
 go_upto_region 2 with (first | (refine zla (.tmp 3) B0 Try.underlying22 Try.size22 ?_) | (go_at_call 26; refine (toPoly_any f hf _).mono ?_; rintro e W2 ⟨rfl, hW2⟩; replace B0 := B0.zw hW2; replace hb := (hb).trans (hW2.mono (hb).size)) | (go_at_call 70; refine (spec_ClassNumber_any p f hf _).mono ?_; rintro e W3 ⟨rfl, hW3⟩; replace B0 := B0.zw hW3; replace hb := (hb).trans (hW3.mono (hb).size)))
 go_upto_region 3 with (first | (refine zla (.tmp 3) B0 Try.underlying22 Try.size22 ?_) | (go_at_call 26; refine (toPoly_any f hf _).mono ?_; rintro e W4 ⟨rfl, hW4⟩; replace B0 := B0.zw hW4; replace hb := (hb).trans (hW4.mono (hb).size)) | (go_at_call 71; refine (HI.out _).mono ?_; rintro e W5 ⟨rfl, hW5⟩; replace B0 := B0.zw hW5; replace hb := (hb).trans (hW5.mono (hb).size)))
 go_wp2_with fail
 go_ret
 exact ⟨rfl, hb⟩
theorem FnExactClassNumber_walk (p : Int) (f : Nat → Nat) (hf : byte f) (w : World) :
 Calls Try.prog 19 #[.int .i64 p, .agg (zb 64 f)] w fun e w' => e = .returned (.bool true) ∧ Below w.heap.size w w' := FnExactClassNumber_walkH p f hf w (forms_given f)
end Go.Proofs.Ytoncepgcfifgbaa
end
