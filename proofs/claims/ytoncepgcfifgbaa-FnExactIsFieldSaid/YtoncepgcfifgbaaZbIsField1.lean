/-
  What the rows of this claim rest on: arrays of bytes, walks of the functions, plain mathematics.
-/
import Derived.Test.YtoncepgcfifgbaaZb7
import Derived.WalkKit
import Derived.WalkSpells
import Derived.WalkLawsBesides
import Derived.Lib.Hide
import Derived.Laws.Rows
import Derived.Laws.CopyOwn
import Derived.Deep.QuietTactic
import Derived.Deep.WholeRow
import Derived.Deep.Draws
import Derived.Deep.MidRow
import Derived.Deep.CutRange
import Derived.Deep.DeepCutAuto
import Derived.Deep.RegionHeld3
import Derived.BigQuiet
import Derived.BigRegion
import Derived.Test.YtoncepgcfifgbaaRows
import Derived.Great.BuildSlice
import Derived.Laws.Tables
import Derived.Laws.StructEq
import Derived.ScopeJumps
import Derived.Deep.CutBlock
import Derived.OwnWalk
import Derived.RangeFuncNested
import Derived.RangeFuncBound
import Derived.RangeFuncCalls
import Derived.RangeFuncLeaves
import Derived.Shelf.Abstract
import Derived.Shelf.RegionOpen
import Derived.OwnWalkIn
import Derived.TacticsInMore
import Derived.LoopNIn
import Derived.LoopIn
import Derived.Maps.OwnOps
import Derived.DeepKeys4
import Derived.Carry
import Derived.Test.YtoncepgcfifgbaaProg
import Derived.OpenShut
section
namespace Go.Proofs.Ytoncepgcfifgbaa
theorem okA_p {p : Int} {f : Nat → Nat} (h : okA p f = true) : okP p = true := (okA_iff.1 h).1
end Go.Proofs.Ytoncepgcfifgbaa
end
section
namespace Go.Proofs.Ytoncepgcfifgbaa
open Go Go.RowKit
set_option linter.unusedVariables false
set_option linter.unusedSimpArgs false
attribute [local irreducible] deg irB monUp monB okA
/-- p and m are a field -/
noncomputable def flV (p : Int) (f : Nat → Nat) : Bool := okA p f && (monUp 4 f && irB p.toNat f)
theorem flV_1 {p : Int} {f : Nat → Nat} (h : okA p f = false) : flV p f = false := by unfold flV; rw [h]; rfl
theorem flV_2 {p : Int} {f : Nat → Nat} (h : monUp 4 f = false) : flV p f = false := by unfold flV; rw [h]; simp
theorem flV_3 {n : Nat} {f : Nat → Nat} (h : okA (n : Int) f = true) (h2 : monUp 4 f = true) : flV (n : Int) f = irB n f := by unfold flV; rw [h, h2]; rfl
theorem irV_up {p : Nat} {f : Nat → Nat} (h : monUp 4 f = true) : irV p f = irB p f := by
 have h2 : monUp 12 f = true := by
  rw [monUp_B] at h ⊢
  simp only [Bool.and_eq_true, decide_eq_true_eq] at h ⊢
  exact ⟨h.1, by omega⟩
 unfold irV; rw [h2]; rfl
theorem okA_nat {p : Int} {f : Nat → Nat} (h : okA p f = true) : ∃ n : Nat, p = (n : Int) ∧ (n = 2 ∨ n = 3 ∨ n = 5 ∨ n = 7) ∧ ∀ k, k < 64 → f k < n := by
 obtain ⟨n, hn, n2, n7⟩ := okP_nat (okA_p h)
 refine ⟨n, hn, ?_, fun k hk => ?_⟩
 · rcases okP_cases (okA_p h) with e | e | e | e <;> omega
 · have := okA_lt h hk; omega
set_option maxRecDepth 100000 in
set_option maxHeartbeats 800000 in
theorem impl_IsField_any (p : Int) (f : Nat → Nat) (hf : byte f) (w : World) :
 Calls Try.prog 56 #[.int .i64 p, .agg (zb 64 f)] w fun e w' => e = .returned (.bool (flV p f)) ∧ Below w.heap.size w w' := by
 go_enter Try.func56, Try.ntmps56
 go_upto_region 1 with (fail)
 obtain ⟨W1, hwo⟩ : ∃ v : World, v = (w.alloc (.cells (zb 64 (f)) 23)) := ⟨_, rfl⟩
 have B0 : Blk W1 (w.heap.size) 64 23 (f) := by subst hwo; have := (Blk.new w 64 23 (f)); simpa using this
 have hb : Below w.heap.size w W1 := by subst hwo; exact ((Below.refl _ _).alloc (Nat.le_refl _) _)
 rw [← hwo]
 clear hwo
 cases ho : okA p f with
 | false =>
  have HV := Lib.hid (flV_1 ho)
  go_wp2_with (first | (refine zla (.tmp 3) B0 Try.underlying23 Try.size23 ?_) | (go_at_call 122; refine (IsPoly_any _ f hf _).mono ?_; rintro e W2 ⟨rfl, hW2⟩; replace B0 := B0.zw hW2; replace hb := (hb).trans (hW2.mono (hb).size); try rw [ho]))
  go_ret
  exact ⟨by rw [HV.out]; rfl, hb⟩
 | true =>
  obtain ⟨n, rfl, hpr, lf⟩ := okA_nat ho
  cases hm : monUp 4 f with
  | false =>
   have HV := Lib.hid (flV_2 (p := (n : Int)) hm)
   go_wp2_with (first | (refine zla (.tmp 3) B0 Try.underlying23 Try.size23 ?_) | (go_at_call 122; refine (IsPoly_any _ f hf _).mono ?_; rintro e W2 ⟨rfl, hW2⟩; replace B0 := B0.zw hW2; replace hb := (hb).trans (hW2.mono (hb).size); try rw [ho]) | (refine zlg rfl 23 (.tmp 3) rfl _ rfl 64 23 _ (B0) _ Try.underlying23 rfl Try.size23 ?_) | (go_at_call 123; refine (isMonicUpTo_any 4 f hf _ (by decide) (by decide)).mono ?_; rintro e W3 ⟨rfl, hW3⟩; replace B0 := B0.zw hW3; replace hb := (hb).trans (hW3.mono (hb).size); try rw [hm]))
   go_ret
   exact ⟨by rw [HV.out]; rfl, hb⟩
  | true =>
   have HV := Lib.hid (flV_3 ho hm)
   have HI := Lib.hid (fun W => isIrreducible_any n f W hpr lf)
   rw [irV_up hm] at HI
   go_wp2_with (first | (refine zla (.tmp 3) B0 Try.underlying23 Try.size23 ?_) | (go_at_call 122; refine (IsPoly_any _ f hf _).mono ?_; rintro e W2 ⟨rfl, hW2⟩; replace B0 := B0.zw hW2; replace hb := (hb).trans (hW2.mono (hb).size); try rw [ho]) | (refine zlg rfl 23 (.tmp 3) rfl _ rfl 64 23 _ (B0) _ Try.underlying23 rfl Try.size23 ?_) | (go_at_call 123; refine (isMonicUpTo_any 4 f hf _ (by decide) (by decide)).mono ?_; rintro e W3 ⟨rfl, hW3⟩; replace B0 := B0.zw hW3; replace hb := (hb).trans (hW3.mono (hb).size); try rw [hm]) | (refine zlg rfl 23 (.tmp 3) rfl _ rfl 64 23 _ (B0) _ Try.underlying23 rfl Try.size23 ?_) | (go_at_call 107; refine (HI.out _).mono ?_; rintro e W4 ⟨rfl, hW4⟩; replace B0 := B0.zw hW4; replace hb := (hb).trans (hW4.mono (hb).size)))
   go_ret
   exact ⟨by rw [HV.out]; rfl, hb⟩
set_option maxRecDepth 100000 in
set_option maxHeartbeats 800000 in
theorem l03Field_any (p : Int) (f : Nat → Nat) (hf : byte f) (w : World) :
 Calls Try.prog 121 #[.int .i64 p, .agg (zb 64 f)] w fun e w' => e = .returned (.bool (flV p f)) ∧ Below w.heap.size w w' := by
 go_enter Try.func121, Try.ntmps121
 go_upto_region 1 with (fail)
 obtain ⟨W1, hwo⟩ : ∃ v : World, v = (w.alloc (.cells (zb 64 (f)) 23)) := ⟨_, rfl⟩
 have B0 : Blk W1 (w.heap.size) 64 23 (f) := by subst hwo; have := (Blk.new w 64 23 (f)); simpa using this
 have hb : Below w.heap.size w W1 := by subst hwo; exact ((Below.refl _ _).alloc (Nat.le_refl _) _)
 rw [← hwo]
 clear hwo
 cases ho : okA p f with
 | false =>
  have HV := Lib.hid (flV_1 ho)
  go_wp2_with (first | (refine zla (.tmp 3) B0 Try.underlying23 Try.size23 ?_) | (go_at_call 144; refine (l01Is_any _ f hf _).mono ?_; rintro e W2 ⟨rfl, hW2⟩; replace B0 := B0.zw hW2; replace hb := (hb).trans (hW2.mono (hb).size); try rw [ho]))
  go_ret
  exact ⟨by rw [HV.out]; rfl, hb⟩
 | true =>
  obtain ⟨n, rfl, hpr, lf⟩ := okA_nat ho
  have hmB := monUp_B (c := 4) (f := f)
  cases hm : monB f with
  | false =>
   have HV := Lib.hid (flV_2 (p := (n : Int)) (by rw [hmB, hm]; rfl))
   clear hmB
   go_wp2_with (first | (refine zla (.tmp 3) B0 Try.underlying23 Try.size23 ?_) | (go_at_call 144; refine (l01Is_any _ f hf _).mono ?_; rintro e W2 ⟨rfl, hW2⟩; replace B0 := B0.zw hW2; replace hb := (hb).trans (hW2.mono (hb).size); try rw [ho]) | (refine zlg rfl 23 (.tmp 3) rfl _ rfl 64 23 _ (B0) _ Try.underlying23 rfl Try.size23 ?_) | (go_at_call 104; refine (l01Monic_any f hf _).mono ?_; rintro e W3 ⟨rfl, hW3⟩; replace B0 := B0.zw hW3; replace hb := (hb).trans (hW3.mono (hb).size); try rw [hm]))
   go_ret
   exact ⟨by rw [HV.out]; rfl, hb⟩
  | true =>
   by_cases hr : 1 ≤ deg f ∧ deg f ≤ 4
   · have HV := Lib.hid (flV_3 ho (by rw [hmB, hm]; simp; omega))
     have hmm := hm
     unfold monB at hmm
     simp only [decide_eq_true_eq] at hmm
     obtain ⟨d, hd⟩ : ∃ d : Nat, deg f = (d : Int) := ⟨(deg f).toNat, by omega⟩
     have hmon : mon f d := ⟨hd, by have := hmm.2; rwa [hd, Int.toNat_natCast] at this⟩
     have HI := Lib.hid (fun W => l01Irreducible_any n f d W hpr lf hmon (by omega))
     clear hmm hmon hmB hd
     go_wp2_with (first | (refine zla (.tmp 3) B0 Try.underlying23 Try.size23 ?_) | (go_at_call 144; refine (l01Is_any _ f hf _).mono ?_; rintro e W2 ⟨rfl, hW2⟩; replace B0 := B0.zw hW2; replace hb := (hb).trans (hW2.mono (hb).size); try rw [ho]) | (refine zlg rfl 23 (.tmp 3) rfl _ rfl 64 23 _ (B0) _ Try.underlying23 rfl Try.size23 ?_) | (go_at_call 104; refine (l01Monic_any f hf _).mono ?_; rintro e W3 ⟨rfl, hW3⟩; replace B0 := B0.zw hW3; replace hb := (hb).trans (hW3.mono (hb).size); try rw [hm]) | (refine zlg rfl 23 (.tmp 3) rfl _ rfl 64 23 _ (B0) _ Try.underlying23 rfl Try.size23 ?_) | (go_at_call 88; refine (l01Deg_any f _).mono ?_; rintro e W4 ⟨rfl, hW4⟩; replace B0 := B0.zw hW4; replace hb := (hb).trans (hW4.mono (hb).size)) | (go_at_call 89; refine (l01In_any _ _ _ _).mono ?_; rintro e wS ⟨rfl, rfl⟩; rw [show decide ((1 : Int) ≤ deg f ∧ deg f ≤ 4) = true by simp; omega]) | (refine zlg rfl 23 (.tmp 3) rfl _ rfl 64 23 _ (B0) _ Try.underlying23 rfl Try.size23 ?_) | (go_at_call 105; refine (HI.out _).mono ?_; rintro e W5 ⟨rfl, hW5⟩; replace B0 := B0.zw hW5; replace hb := (hb).trans (hW5.mono (hb).size)))
     go_ret
     exact ⟨by rw [HV.out]; rfl, hb⟩
   · have HV := Lib.hid (flV_2 (p := (n : Int)) (by rw [hmB, hm]; simp; omega))
     clear hmB
     go_wp2_with (first | (refine zla (.tmp 3) B0 Try.underlying23 Try.size23 ?_) | (go_at_call 144; refine (l01Is_any _ f hf _).mono ?_; rintro e W2 ⟨rfl, hW2⟩; replace B0 := B0.zw hW2; replace hb := (hb).trans (hW2.mono (hb).size); try rw [ho]) | (refine zlg rfl 23 (.tmp 3) rfl _ rfl 64 23 _ (B0) _ Try.underlying23 rfl Try.size23 ?_) | (go_at_call 104; refine (l01Monic_any f hf _).mono ?_; rintro e W3 ⟨rfl, hW3⟩; replace B0 := B0.zw hW3; replace hb := (hb).trans (hW3.mono (hb).size); try rw [hm]) | (refine zlg rfl 23 (.tmp 3) rfl _ rfl 64 23 _ (B0) _ Try.underlying23 rfl Try.size23 ?_) | (go_at_call 88; refine (l01Deg_any f _).mono ?_; rintro e W4 ⟨rfl, hW4⟩; replace B0 := B0.zw hW4; replace hb := (hb).trans (hW4.mono (hb).size)) | (go_at_call 89; refine (l01In_any _ _ _ _).mono ?_; rintro e wS ⟨rfl, rfl⟩; rw [show decide ((1 : Int) ≤ deg f ∧ deg f ≤ 4) = false by simp; omega]))
     go_ret
     exact ⟨by rw [HV.out]; rfl, hb⟩
set_option maxRecDepth 100000 in
set_option maxHeartbeats 800000 in
theorem spec_IsField_any (p : Int) (f : Nat → Nat) (hf : byte f) (w : World) :
 Calls Try.prog 55 #[.int .i64 p, .agg (zb 64 f)] w fun e w' => e = .returned (.bool (flV p f)) ∧ Below w.heap.size w w' := by
 go_enter Try.func55, Try.ntmps55
 go_upto_region 1 with (fail)
 obtain ⟨W1, hwo⟩ : ∃ v : World, v = (w.alloc (.cells (zb 64 (f)) 23)) := ⟨_, rfl⟩
 have B0 : Blk W1 (w.heap.size) 64 23 (f) := by subst hwo; have := (Blk.new w 64 23 (f)); simpa using this
 have hb : Below w.heap.size w W1 := by subst hwo; exact ((Below.refl _ _).alloc (Nat.le_refl _) _)
 rw [← hwo]
 clear hwo
 go_wp2_with (first | (refine zla (.tmp 3) B0 Try.underlying23 Try.size23 ?_) | (go_at_call 121; refine (l03Field_any p f hf _).mono ?_; rintro e W2 ⟨rfl, hW2⟩; replace B0 := B0.zw hW2; replace hb := (hb).trans (hW2.mono (hb).size)))
 go_ret
 exact ⟨rfl, hb⟩
end Go.Proofs.Ytoncepgcfifgbaa
end
section
namespace Go.Proofs.Ytoncepgcfifgbaa
open Go.RowKit
set_option linter.unusedVariables false
set_option linter.unusedSimpArgs false
set_option maxRecDepth 100000 in
set_option maxHeartbeats 800000 in
theorem FnExactIsField_walk (p : Int) (f : Nat → Nat) (hf : byte f) (wp : (Lit.int .i64 p).wf = true) (w : World) :
 Calls Try.prog 14 #[.int .i64 p, .agg (zb 64 f)] w fun e w' => e = .returned (.bool true) ∧ Below w.heap.size w w' := by
 have bdp := bounds_i64 wp
 go_enter Try.func14, Try.ntmps14
 go_upto_region 1 with (fail)
 obtain ⟨wo, hwo⟩ : ∃ wo : World, wo = (w.alloc (.cells (zb 64 f) 22)) := ⟨_, rfl⟩
 have bf : Blk wo (w.heap.size) 64 22 f := by subst hwo; have := (Blk.new w 64 22 f); simpa using this
 have hb : Below w.heap.size w wo := by subst hwo; exact ((Below.refl _ _).alloc (Nat.le_refl _) _)
 rw [← hwo]
 clear hwo
 have ha : Below wo.heap.size wo wo := Below.refl _ _
 have hne0 : ((flV p f) != (flV p f)) = false := by simp
 go_wp2_with (first | refine zlb rfl 22 _ rfl _ rfl 64 22 _ (bf.below (by assumption) bf.lt) 5 Try.underlying22 Try.size22 ?_ | (go_at_call 26; refine (acc (toPoly_any _ hf _) (by assumption)).mono ?_; rintro e w1 ⟨rfl, h1, ha⟩) | (go_at_call 55; refine (acc (spec_IsField_any p f hf _) (by assumption)).mono ?_; rintro e w1 ⟨rfl, h1, ha⟩) | (go_at_call 56; refine (acc (impl_IsField_any p f hf _) (by assumption)).mono ?_; rintro e w1 ⟨rfl, h1, ha⟩))
 go_ret
 exact ⟨rfl, hb.trans (ha.mono hb.size)⟩
end Go.Proofs.Ytoncepgcfifgbaa
end
