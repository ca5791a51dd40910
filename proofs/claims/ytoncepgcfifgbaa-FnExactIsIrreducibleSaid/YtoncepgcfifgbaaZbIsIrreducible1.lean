/-
  What the rows of this claim rest on: arrays of bytes, walks of the functions, plain mathematics.
-/
import Derived.Test.YtoncepgcfifgbaaZb7
import Derived.WalkKit
import Derived.WalkSpells
import Derived.WalkLawsBesides
import Derived.Lib.Hide
import Derived.Laws.Rows
import Derived.Laws.CopyOwn
import Derived.Deep.QuietTactic
import Derived.Deep.WholeRow
import Derived.Deep.Draws
import Derived.Deep.MidRow
import Derived.Deep.CutRange
import Derived.Deep.DeepCutAuto
import Derived.Deep.RegionHeld3
import Derived.BigQuiet
import Derived.BigRegion
import Derived.Test.YtoncepgcfifgbaaRows
import Derived.Great.BuildSlice
import Derived.Laws.Tables
import Derived.Laws.StructEq
import Derived.ScopeJumps
import Derived.Deep.CutBlock
import Derived.OwnWalk
import Derived.RangeFuncNested
import Derived.RangeFuncBound
import Derived.RangeFuncCalls
import Derived.RangeFuncLeaves
import Derived.Shelf.Abstract
import Derived.Shelf.RegionOpen
import Derived.OwnWalkIn
import Derived.TacticsInMore
import Derived.LoopNIn
import Derived.LoopIn
import Derived.Maps.OwnOps
import Derived.DeepKeys4
import Derived.Carry
import Derived.Test.YtoncepgcfifgbaaProg
import Derived.OpenShut
section
namespace Go.Proofs.Ytoncepgcfifgbaa
open Go Go.RowKit
set_option linter.unusedVariables false
set_option linter.unusedSimpArgs false
attribute [local irreducible] deg irB monUp monB
/-- both answers -/
noncomputable def iiV (p : Int) (f : Nat → Nat) : Bool × Int := if spV p f (-1) = 0 then (irV p.toNat f, 0) else (false, spV p f (-1))
theorem iiV_bad {p c : Int} {f : Nat → Nat} (h : spV p f (-1) = c) (h2 : c ≠ 0) : iiV p f = (false, c) := by unfold iiV; rw [h, if_neg h2]
theorem iiV_ok {n : Nat} {f : Nat → Nat} (h : spV (n : Int) f (-1) = 0) : iiV (n : Int) f = (irV n f, 0) := by unfold iiV; rw [if_pos h]; rfl
set_option maxRecDepth 100000 in
set_option maxHeartbeats 800000 in
theorem impl_IsIrreducible_any (p : Int) (f : Nat → Nat) (hf : byte f) (w : World) :
 Calls Try.prog 39 #[.int .i64 p, .agg (zb 64 f)] w fun e w' => e = .returned (.tuple #[.bool (iiV p f).1, .int .i64 (iiV p f).2]) ∧ Below w.heap.size w w' := by
 go_enter Try.func39, Try.ntmps39
 go_upto_region 1 with (fail)
 obtain ⟨W1, hwo⟩ : ∃ v : World, v = (w.alloc (.cells (zb 64 (f)) 23)) := ⟨_, rfl⟩
 have B0 : Blk W1 (w.heap.size) 64 23 (f) := by subst hwo; have := (Blk.new w 64 23 (f)); simpa using this
 have hb : Below w.heap.size w W1 := by subst hwo; exact ((Below.refl _ _).alloc (Nat.le_refl _) _)
 rw [← hwo]
 clear hwo
 go_upto_region 2 with (first | (refine zla (.tmp 3) B0 Try.underlying23 Try.size23 ?_) | (go_at_call 106; refine (checkSplit_any p f hf (-1) (by decide) (by decide) _).mono ?_; rintro e W2 ⟨rfl, hW2⟩; replace B0 := B0.zw hW2; replace hb := (hb).trans (hW2.mono (hb).size)))
 rcases spV_cases (p := p) (f := f) (lo := -1) with ⟨c, hs, hc0, hc12⟩ | ⟨hs, hc, hr1, hr2⟩
 · have HV := Lib.hid (iiV_bad hs hc0)
   rw [hs]
   clear hs
   have hb1 : ((c : Int) != 0) = true := by simp [hc0]
   go_wp2_with fail
   go_ret2
   exact ⟨by rw [HV.out]; rfl, hb⟩
 · obtain ⟨n, hn, n2, n7⟩ := okP_nat (codeL_zero hc).1
   subst hn
   have lf := lt_of_code hc (f := f) (by simp)
   have hpr := prime_of hc
   have HV := Lib.hid (iiV_ok hs)
   rw [hs]
   clear hs hc
   have HI := Lib.hid (fun W => isIrreducible_any n f W hpr lf)
   go_upto_region 4 with (fail)
   go_wp2_with (first | (refine zla (.tmp 3) B0 Try.underlying23 Try.size23 ?_) | (go_at_call 107; refine (HI.out _).mono ?_; rintro e W3 ⟨rfl, hW3⟩; replace B0 := B0.zw hW3; replace hb := (hb).trans (hW3.mono (hb).size)))
   go_ret2
   exact ⟨by rw [HV.out]; rfl, hb⟩
set_option maxRecDepth 100000 in
set_option maxHeartbeats 800000 in
theorem spec_IsIrreducible_any (p : Int) (f : Nat → Nat) (hf : byte f) (w : World) :
 Calls Try.prog 38 #[.int .i64 p, .agg (zb 64 f)] w fun e w' => e = .returned (.tuple #[.bool (iiV p f).1, .int .i64 (iiV p f).2]) ∧ Below w.heap.size w w' := by
 go_enter Try.func38, Try.ntmps38
 go_upto_region 1 with (fail)
 obtain ⟨W1, hwo⟩ : ∃ v : World, v = (w.alloc (.cells (zb 64 (f)) 23)) := ⟨_, rfl⟩
 have B0 : Blk W1 (w.heap.size) 64 23 (f) := by subst hwo; have := (Blk.new w 64 23 (f)); simpa using this
 have hb : Below w.heap.size w W1 := by subst hwo; exact ((Below.refl _ _).alloc (Nat.le_refl _) _)
 rw [← hwo]
 clear hwo
 go_upto_region 2 with (first | (refine zla (.tmp 3) B0 Try.underlying23 Try.size23 ?_) | (go_at_call 103; refine (l02Degree_any p f hf (-1) (by decide) (by decide) _).mono ?_; rintro e W2 ⟨rfl, hW2⟩; replace B0 := B0.zw hW2; replace hb := (hb).trans (hW2.mono (hb).size)))
 rcases spV_cases (p := p) (f := f) (lo := -1) with ⟨c, hs, hc0, hc12⟩ | ⟨hs, hc, hr1, hr2⟩
 · have HV := Lib.hid (iiV_bad hs hc0)
   rw [hs]
   clear hs
   have hb1 : ((c : Int) != 0) = true := by simp [hc0]
   go_wp2_with fail
   go_ret2
   exact ⟨by rw [HV.out]; rfl, hb⟩
 · obtain ⟨n, hn, n2, n7⟩ := okP_nat (codeL_zero hc).1
   subst hn
   have lf := lt_of_code hc (f := f) (by simp)
   have hpr := prime_of hc
   have HV := Lib.hid (iiV_ok hs)
   rw [hs]
   clear hs hc
   rw [irV_B hr2] at HV
   cases hm : monB f with
   | false =>
    rw [hm] at HV
    go_upto_region 4 with (fail)
    go_wp2_with (first | (refine zla (.tmp 3) B0 Try.underlying23 Try.size23 ?_) | (go_at_call 104; refine (l01Monic_any f hf _).mono ?_; rintro e W3 ⟨rfl, hW3⟩; replace B0 := B0.zw hW3; replace hb := (hb).trans (hW3.mono (hb).size); rw [hm]))
    go_ret2
    exact ⟨by rw [HV.out]; rfl, hb⟩
   | true =>
    rw [hm] at HV
    have hmm := hm
    unfold monB at hmm
    simp only [decide_eq_true_eq] at hmm
    obtain ⟨d, hd⟩ : ∃ d : Nat, deg f = (d : Int) := ⟨(deg f).toNat, by omega⟩
    have hmon : mon f d := ⟨hd, by have := hmm.2; rwa [hd, Int.toNat_natCast] at this⟩
    have HI := Lib.hid (fun W => l01Irreducible_any n f d W hpr lf hmon (by omega))
    clear hmm hmon
    go_upto_region 4 with (fail)
    go_wp2_with (first | (refine zla (.tmp 3) B0 Try.underlying23 Try.size23 ?_) | (go_at_call 104; refine (l01Monic_any f hf _).mono ?_; rintro e W3 ⟨rfl, hW3⟩; replace B0 := B0.zw hW3; replace hb := (hb).trans (hW3.mono (hb).size); rw [hm]) | (refine zlg rfl 23 (.tmp 3) rfl _ rfl 64 23 _ (B0) _ Try.underlying23 rfl Try.size23 ?_) | (go_at_call 105; refine (HI.out _).mono ?_; rintro e W4 ⟨rfl, hW4⟩; replace B0 := B0.zw hW4; replace hb := (hb).trans (hW4.mono (hb).size)))
    go_ret2
    exact ⟨by rw [HV.out]; rfl, hb⟩
end Go.Proofs.Ytoncepgcfifgbaa
end
section
namespace Go.Proofs.Ytoncepgcfifgbaa
open Go.RowKit
set_option linter.unusedVariables false
set_option linter.unusedSimpArgs false
set_option maxRecDepth 100000 in
set_option maxHeartbeats 800000 in
theorem FnExactIsIrreducible_walk (p : Int) (f : Nat → Nat) (hf : byte f) (wp : (Lit.int .i64 p).wf = true) (w : World) :
 Calls Try.prog 7 #[.int .i64 p, .agg (zb 64 f)] w fun e w' => e = .returned (.bool true) ∧ Below w.heap.size w w' := by
 have bdp := bounds_i64 wp
 go_enter Try.func7, Try.ntmps7
 go_upto_region 1 with (fail)
 obtain ⟨wo, hwo⟩ : ∃ wo : World, wo = (w.alloc (.cells (zb 64 f) 22)) := ⟨_, rfl⟩
 have bf : Blk wo (w.heap.size) 64 22 f := by subst hwo; have := (Blk.new w 64 22 f); simpa using this
 have hb : Below w.heap.size w wo := by subst hwo; exact ((Below.refl _ _).alloc (Nat.le_refl _) _)
 rw [← hwo]
 clear hwo
 have ha : Below wo.heap.size wo wo := Below.refl _ _
 have hne0 : (((iiV p f).1) != ((iiV p f).1)) = false := by simp
 have hne1 : (((iiV p f).2) != ((iiV p f).2)) = false := by simp
 go_wp2_with (first | refine zlb rfl 22 _ rfl _ rfl 64 22 _ (bf.below (by assumption) bf.lt) 5 Try.underlying22 Try.size22 ?_ | (go_at_call 26; refine (acc (toPoly_any _ hf _) (by assumption)).mono ?_; rintro e w1 ⟨rfl, h1, ha⟩) | (go_at_call 38; refine (acc (spec_IsIrreducible_any p f hf _) (by assumption)).mono ?_; rintro e w1 ⟨rfl, h1, ha⟩) | (go_at_call 39; refine (acc (impl_IsIrreducible_any p f hf _) (by assumption)).mono ?_; rintro e w1 ⟨rfl, h1, ha⟩))
 go_ret
 exact ⟨rfl, hb.trans (ha.mono hb.size)⟩
end Go.Proofs.Ytoncepgcfifgbaa
end
