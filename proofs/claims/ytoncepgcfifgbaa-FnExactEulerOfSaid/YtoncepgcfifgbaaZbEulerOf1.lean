/-
  What the rows of this claim rest on: arrays of bytes, walks of the functions, plain mathematics.
-/
import Derived.Test.YtoncepgcfifgbaaZb7
import Derived.WalkKit
import Derived.WalkSpells
import Derived.WalkLawsBesides
import Derived.Lib.Hide
import Derived.Laws.Rows
import Derived.Laws.CopyOwn
import Derived.Deep.QuietTactic
import Derived.Deep.WholeRow
import Derived.Deep.Draws
import Derived.Deep.MidRow
import Derived.Deep.CutRange
import Derived.Deep.DeepCutAuto
import Derived.Deep.RegionHeld3
import Derived.BigQuiet
import Derived.BigRegion
import Derived.Test.YtoncepgcfifgbaaRows
import Derived.Great.BuildSlice
import Derived.Laws.Tables
import Derived.Laws.StructEq
import Derived.ScopeJumps
import Derived.Deep.CutBlock
import Derived.OwnWalk
import Derived.RangeFuncNested
import Derived.RangeFuncBound
import Derived.RangeFuncCalls
import Derived.RangeFuncLeaves
import Derived.Shelf.Abstract
import Derived.Shelf.RegionOpen
import Derived.OwnWalkIn
import Derived.TacticsInMore
import Derived.LoopNIn
import Derived.LoopIn
import Derived.Maps.OwnOps
import Derived.DeepKeys4
import Derived.Carry
import Derived.Test.YtoncepgcfifgbaaProg
import Derived.OpenShut
section
namespace Go.Proofs.Ytoncepgcfifgbaa
open Go Go.RowKit
set_option linter.unusedVariables false
set_option linter.unusedSimpArgs false
attribute [local irreducible] deg facRows run
/-- both answers -/
def euV (p : Int) (f : Nat → Nat) : Int × Int := if spV p f 1 = 0 then ((euG p.toNat 1 (run p.toNat 64 1 f) : Nat), 0) else (0, spV p f 1)
theorem euV_bad {p c : Int} {f : Nat → Nat} (h : spV p f 1 = c) (h2 : c ≠ 0) : euV p f = (0, c) := by unfold euV; rw [h, if_neg h2]
theorem euV_ok {n : Nat} {f : Nat → Nat} (h : spV (n : Int) f 1 = 0) : euV (n : Int) f = (((euG n 1 (run n 64 1 f) : Nat) : Int), 0) := by unfold euV; rw [if_pos h]; rfl
set_option maxRecDepth 100000 in
set_option maxHeartbeats 3200000 in
theorem spec_EulerOf_any (p : Int) (f : Nat → Nat) (hf : byte f) (w : World) :
 Calls Try.prog 49 #[.int .i64 p, .agg (zb 64 f)] w fun e w' => e = .returned (.tuple #[.int .i64 (euV p f).1, .int .i64 (euV p f).2]) ∧ Below w.heap.size w w' := by
 go_enter Try.func49, Try.ntmps49
 go_upto_region 1 with (fail)
 obtain ⟨W1, hwo⟩ : ∃ v : World, v = (w.alloc (.cells (zb 64 (f)) 23)) := ⟨_, rfl⟩
 have B0 : Blk W1 (w.heap.size) 64 23 (f) := by subst hwo; have := (Blk.new w 64 23 (f)); simpa using this
 have hb : Below w.heap.size w W1 := by subst hwo; exact ((Below.refl _ _).alloc (Nat.le_refl _) _)
 rw [← hwo]
 clear hwo
 go_upto_region 2 with (first | (refine zla (.tmp 3) B0 Try.underlying23 Try.size23 ?_) | (go_at_call 103; refine (l02Degree_any p f hf 1 (by decide) (by decide) _).mono ?_; rintro e W2 ⟨rfl, hW2⟩; replace B0 := B0.zw hW2; replace hb := (hb).trans (hW2.mono (hb).size)))
 rcases spV_cases (p := p) (f := f) (lo := 1) with ⟨c, hs, hc0, hc12⟩ | ⟨hs, hc, hr1, hr2⟩
 · have HV := Lib.hid (euV_bad hs hc0)
   rw [hs]
   clear hs
   have hb1 : ((c : Int) != 0) = true := by simp [hc0]
   go_wp2_with fail
   go_ret2
   exact ⟨by rw [HV.out]; rfl, hb⟩
 · obtain ⟨n, hn, n2, n7⟩ := okP_nat (codeL_zero hc).1
   subst hn
   have lf := lt_of_code hc (f := f) (by simp)
   have hpr := prime_of hc
   have HV := Lib.hid (euV_ok hs)
   have HU := Lib.hid (fun W => l02Euler_any n f W hpr lf (by omega) hr2)
   rw [hs]
   clear hs hc
   obtain ⟨E, hE⟩ : ∃ E, E = euG n 1 (run n 64 1 f) := ⟨_, rfl⟩
   rw [← hE] at HV HU
   clear hE
   go_upto_region 4 with (fail)
   go_wp2_with (first | (refine zla (.tmp 3) B0 Try.underlying23 Try.size23 ?_) | (go_at_call 113; refine (HU.out _).mono ?_; rintro e W3 ⟨rfl, hW3⟩; replace B0 := B0.zw hW3; replace hb := (hb).trans (hW3.mono (hb).size)))
   go_ret2
   exact ⟨by rw [HV.out]; rfl, hb⟩
set_option maxRecDepth 100000 in
set_option maxHeartbeats 3200000 in
theorem impl_EulerOf_any (p : Int) (f : Nat → Nat) (hf : byte f) (w : World) :
 Calls Try.prog 50 #[.int .i64 p, .agg (zb 64 f)] w fun e w' => e = .returned (.tuple #[.int .i64 (euV p f).1, .int .i64 (euV p f).2]) ∧ Below w.heap.size w w' := by
 go_enter Try.func50, Try.ntmps50
 go_upto_region 1 with (fail)
 obtain ⟨W1, hwo⟩ : ∃ v : World, v = (w.alloc (.cells (zb 64 (f)) 23)) := ⟨_, rfl⟩
 have B0 : Blk W1 (w.heap.size) 64 23 (f) := by subst hwo; have := (Blk.new w 64 23 (f)); simpa using this
 have hb : Below w.heap.size w W1 := by subst hwo; exact ((Below.refl _ _).alloc (Nat.le_refl _) _)
 rw [← hwo]
 clear hwo
 go_upto_region 2 with (first | (refine zla (.tmp 3) B0 Try.underlying23 Try.size23 ?_) | (go_at_call 106; refine (checkSplit_any p f hf 1 (by decide) (by decide) _).mono ?_; rintro e W2 ⟨rfl, hW2⟩; replace B0 := B0.zw hW2; replace hb := (hb).trans (hW2.mono (hb).size)))
 rcases spV_cases (p := p) (f := f) (lo := 1) with ⟨c, hs, hc0, hc12⟩ | ⟨hs, hc, hr1, hr2⟩
 · have HV := Lib.hid (euV_bad hs hc0)
   rw [hs]
   clear hs
   have hb1 : ((c : Int) != 0) = true := by simp [hc0]
   go_wp2_with fail
   go_ret2
   exact ⟨by rw [HV.out]; rfl, hb⟩
 · obtain ⟨n, hn, n2, n7⟩ := okP_nat (codeL_zero hc).1
   subst hn
   have lf := lt_of_code hc (f := f) (by simp)
   have hpr := prime_of hc
   have HV := Lib.hid (euV_ok hs)
   have HU := Lib.hid (fun W => eulerOf_any n f W hpr lf (by omega) hr2)
   rw [hs]
   clear hs hc
   obtain ⟨E, hE⟩ : ∃ E, E = euG n 1 (run n 64 1 f) := ⟨_, rfl⟩
   rw [← hE] at HV HU
   clear hE
   go_upto_region 4 with (fail)
   go_wp2_with (first | (refine zla (.tmp 3) B0 Try.underlying23 Try.size23 ?_) | (go_at_call 114; refine (HU.out _).mono ?_; rintro e W3 ⟨rfl, hW3⟩; replace B0 := B0.zw hW3; replace hb := (hb).trans (hW3.mono (hb).size)))
   go_ret2
   exact ⟨by rw [HV.out]; rfl, hb⟩
end Go.Proofs.Ytoncepgcfifgbaa
end
section
namespace Go.Proofs.Ytoncepgcfifgbaa
open Go.RowKit
set_option linter.unusedVariables false
set_option linter.unusedSimpArgs false
set_option maxRecDepth 100000 in
set_option maxHeartbeats 800000 in
theorem FnExactEulerOf_walk (p : Int) (f : Nat → Nat) (hf : byte f) (wp : (Lit.int .i64 p).wf = true) (w : World) :
 Calls Try.prog 11 #[.int .i64 p, .agg (zb 64 f)] w fun e w' => e = .returned (.bool true) ∧ Below w.heap.size w w' := by
 have bdp := bounds_i64 wp
 go_enter Try.func11, Try.ntmps11
 go_upto_region 1 with (fail)
 obtain ⟨wo, hwo⟩ : ∃ wo : World, wo = (w.alloc (.cells (zb 64 f) 22)) := ⟨_, rfl⟩
 have bf : Blk wo (w.heap.size) 64 22 f := by subst hwo; have := (Blk.new w 64 22 f); simpa using this
 have hb : Below w.heap.size w wo := by subst hwo; exact ((Below.refl _ _).alloc (Nat.le_refl _) _)
 rw [← hwo]
 clear hwo
 have ha : Below wo.heap.size wo wo := Below.refl _ _
 have hne0 : (((euV p f).1) != ((euV p f).1)) = false := by simp
 have hne1 : (((euV p f).2) != ((euV p f).2)) = false := by simp
 go_wp2_with (first | refine zlb rfl 22 _ rfl _ rfl 64 22 _ (bf.below (by assumption) bf.lt) 5 Try.underlying22 Try.size22 ?_ | (go_at_call 26; refine (acc (toPoly_any _ hf _) (by assumption)).mono ?_; rintro e w1 ⟨rfl, h1, ha⟩) | (go_at_call 49; refine (acc (spec_EulerOf_any p f hf _) (by assumption)).mono ?_; rintro e w1 ⟨rfl, h1, ha⟩) | (go_at_call 50; refine (acc (impl_EulerOf_any p f hf _) (by assumption)).mono ?_; rintro e w1 ⟨rfl, h1, ha⟩))
 go_ret
 exact ⟨rfl, hb.trans (ha.mono hb.size)⟩
end Go.Proofs.Ytoncepgcfifgbaa
end
