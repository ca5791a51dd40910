/-
  What the rows of this claim rest on: arrays of bytes, walks of the functions, plain mathematics.
-/
import Derived.Test.YteloknnooebabaaZr3
import Derived.WalkKit
import Derived.WalkSpells
import Derived.WalkLawsBesides
import Derived.Lib.Hide
import Derived.Laws.Rows
import Derived.Laws.CopyOwn
import Derived.Deep.QuietTactic
import Derived.Deep.WholeRow
import Derived.Deep.Draws
import Derived.Deep.MidRow
import Derived.Deep.CutRange
import Derived.Deep.DeepCutAuto
import Derived.Deep.RegionHeld3
import Derived.BigQuiet
import Derived.BigRegion
import Derived.Test.YteloknnooebabaaRows
import Derived.Great.BuildSlice
import Derived.Laws.Tables
import Derived.Laws.StructEq
import Derived.ScopeJumps
import Derived.OwnWalk
import Derived.RangeFuncNested
import Derived.RangeFuncBound
import Derived.RangeFuncCalls
import Derived.RangeFuncLeaves
import Derived.Shelf.Abstract
import Derived.Shelf.RegionOpen
import Derived.OwnWalkIn
import Derived.TacticsInMore
import Derived.LoopNIn
import Derived.LoopIn
import Derived.Deep.CutBlock
import Derived.Maps.OwnOps
import Derived.DeepKeys4
import Derived.Carry
import Derived.Test.YteloknnooebabaaProg
set_option maxRecDepth 100000
set_option maxHeartbeats 9000000
set_option linter.unusedVariables false
set_option linter.unusedSimpArgs false
namespace Go.Proofs.Yteloknnooebabaa
open Go.RowKit
attribute [local irreducible] deg invN dS qS stp stpr quoP resP oneP
theorem isModulus_any (f : Nat → Nat) (hf : byte f) (w : World) : Calls Try.prog 204 #[.agg (zb 64 f)] w fun e w' => e = .returned (.bool (monUp 5 f)) ∧ Below w.heap.size w w' := by
 go_enter Try.func204, Try.ntmps204
 go_upto_region 1 with (fail)
 obtain ⟨W1, hwo⟩ : ∃ v : World, v = (w.alloc (.cells (zb 64 (f)) 24)) := ⟨_, rfl⟩
 have B0 : Blk W1 (w.heap.size) 64 24 (f) := by subst hwo; have := (Blk.new w 64 24 (f)); simpa using this
 have hb : Below w.heap.size w W1 := by subst hwo; exact ((Below.refl _ _).alloc (Nat.le_refl _) _)
 rw [← hwo]
 clear hwo
 go_wp2_with (first | (refine zla (.tmp 1) B0 Try.underlying24 Try.size24 ?_) | (go_at_call 132; refine (isMonicUpTo_any 5 f hf _ (by omega) (by omega)).mono ?_; rintro e W2 ⟨rfl, hW2⟩; replace B0 := B0.zw hW2; replace hb := (hb).trans (hW2.mono (hb).size)))
 go_ret
 exact ⟨rfl, hb⟩
def modV (p : Int) (m : Nat → Nat) (fs : List (Nat → Nat)) : Int := if codeL p [m] = 0 ∧ codeL p fs = 0 then (if monUp 5 m then 0 else 2) else 1
theorem modV_1 {p : Int} {m : Nat → Nat} {fs : List (Nat → Nat)} (h : codeL p [m] = 1) : modV p m fs = 1 := by
 unfold modV; rw [if_neg (fun h2 => by rw [h] at h2; exact absurd h2.1 (by decide))]
theorem modV_2 {p : Int} {m : Nat → Nat} {fs : List (Nat → Nat)} (h : codeL p fs = 1) : modV p m fs = 1 := by
 unfold modV; rw [if_neg (fun h2 => by rw [h] at h2; exact absurd h2.2 (by decide))]
theorem modV_3 {p : Int} {m : Nat → Nat} {fs : List (Nat → Nat)} (h1 : codeL p [m] = 0) (h2 : codeL p fs = 0) (h : monUp 5 m = false) : modV p m fs = 2 := by
 unfold modV; rw [if_pos ⟨h1, h2⟩, h]; rfl
theorem modV_0 {p : Int} {m : Nat → Nat} {fs : List (Nat → Nat)} (h1 : codeL p [m] = 0) (h2 : codeL p fs = 0) (h : monUp 5 m = true) : modV p m fs = 0 := by
 unfold modV; rw [if_pos ⟨h1, h2⟩, h]; rfl
theorem checkModulus_any (p : Int) (m : Nat → Nat) (hmb : byte m) (fs : List (Nat → Nat)) (hfs : ∀ f ∈ fs, byte f) (bb : Nat) (w : World) (hs : PolS w bb fs) (hl : fs.length ≤ 8) :
 Calls Try.prog 118 #[.int .i64 p, .agg (zb 64 m), .slice (some ⟨bb, 0, none⟩) fs.length fs.length] w fun e w' => e = .returned (.int .i64 (modV p m fs)) ∧ Below w.heap.size w w' := by
 obtain ⟨fb1, fb2⟩ := zdb m
 have hslt := hs.lt
 go_enter Try.func118, Try.ntmps118
 go_upto_region 1 with (fail)
 obtain ⟨W1, hwo⟩ : ∃ v : World, v = (w.alloc (.cells (zb 64 (m)) 24)) := ⟨_, rfl⟩
 have B0 : Blk W1 (w.heap.size) 64 24 (m) := by subst hwo; have := (Blk.new w 64 24 (m)); simpa using this
 have hb : Below w.heap.size w W1 := by subst hwo; exact ((Below.refl _ _).alloc (Nat.le_refl _) _)
 rw [← hwo]
 clear hwo
 rcases codeL_two p [m] with hc1 | hc1
 · rcases codeL_two p fs with hc2 | hc2
   · cases hm5 : monUp 5 m with
     | false =>
      have HV := Lib.hid (modV_3 hc1 hc2 hm5)
      go_upto_region 3 with (first | (refine zla (.tmp 4) B0 Try.underlying24 Try.size24 ?_) | (refine wpList_build_polys rfl 40 _ [m] rfl 24 rfl Try.underlying40 Try.elem24 (by simp) (by simp) rfl ?_; intro wa hwa hps hba; clear hwa) | (go_at_call 131; refine (checkPolys_any p [m] (by simp [hmb]) _ _ hps (by simp)).mono ?_; rintro e W2 ⟨rfl, hbb⟩; replace B0 := B0.below (hba.trans (hbb.mono hba.size)) B0.lt; replace hb := hb.trans ((hba.trans (hbb.mono hba.size)).mono hb.size); clear hps; rw [hc1]) | (go_at_call 131; refine (checkPolys_any p fs hfs bb _ (hs.below hb hslt) hl).mono ?_; rintro e W3 ⟨rfl, hb3⟩; replace B0 := B0.zw hb3; replace hb := hb.trans (hb3.mono hb.size); rw [hc2]))
      clear hba hbb hb3 hs hslt hfs
      go_upto_region 4 with (first | (refine zla (.tmp 4) B0 Try.underlying24 Try.size24 ?_) | (go_at_call 204; refine (isModulus_any m hmb _).mono ?_; rintro e W2 ⟨rfl, hW2⟩; replace B0 := B0.zw hW2; replace hb := (hb).trans (hW2.mono (hb).size); rw [hm5]))
      go_wp2_with fail
      go_ret
      exact ⟨ret_int HV.out.symm, hb⟩
     | true =>
      have HV := Lib.hid (modV_0 hc1 hc2 hm5)
      go_upto_region 3 with (first | (refine zla (.tmp 4) B0 Try.underlying24 Try.size24 ?_) | (refine wpList_build_polys rfl 40 _ [m] rfl 24 rfl Try.underlying40 Try.elem24 (by simp) (by simp) rfl ?_; intro wa hwa hps hba; clear hwa) | (go_at_call 131; refine (checkPolys_any p [m] (by simp [hmb]) _ _ hps (by simp)).mono ?_; rintro e W2 ⟨rfl, hbb⟩; replace B0 := B0.below (hba.trans (hbb.mono hba.size)) B0.lt; replace hb := hb.trans ((hba.trans (hbb.mono hba.size)).mono hb.size); clear hps; rw [hc1]) | (go_at_call 131; refine (checkPolys_any p fs hfs bb _ (hs.below hb hslt) hl).mono ?_; rintro e W3 ⟨rfl, hb3⟩; replace B0 := B0.zw hb3; replace hb := hb.trans (hb3.mono hb.size); rw [hc2]))
      clear hba hbb hb3 hs hslt hfs
      go_upto_region 5 with (first | (refine zla (.tmp 4) B0 Try.underlying24 Try.size24 ?_) | (go_at_call 204; refine (isModulus_any m hmb _).mono ?_; rintro e W2 ⟨rfl, hW2⟩; replace B0 := B0.zw hW2; replace hb := (hb).trans (hW2.mono (hb).size); rw [hm5]))
      go_wp2_with fail
      go_ret
      exact ⟨ret_int HV.out.symm, hb⟩
   have HV := Lib.hid (modV_2 (m := m) hc2)
   go_upto_region 2 with (first | (refine zla (.tmp 4) B0 Try.underlying24 Try.size24 ?_) | (refine wpList_build_polys rfl 40 _ [m] rfl 24 rfl Try.underlying40 Try.elem24 (by simp) (by simp) rfl ?_; intro wa hwa hps hba; clear hwa) | (go_at_call 131; refine (checkPolys_any p [m] (by simp [hmb]) _ _ hps (by simp)).mono ?_; rintro e W2 ⟨rfl, hbb⟩; replace B0 := B0.below (hba.trans (hbb.mono hba.size)) B0.lt; replace hb := hb.trans ((hba.trans (hbb.mono hba.size)).mono hb.size); clear hps; rw [hc1]) | (go_at_call 131; refine (checkPolys_any p fs hfs bb _ (hs.below hb hslt) hl).mono ?_; rintro e W3 ⟨rfl, hb3⟩; replace B0 := B0.zw hb3; replace hb := hb.trans (hb3.mono hb.size); rw [hc2]))
   go_wp2_with fail
   go_ret
   exact ⟨ret_int HV.out.symm, hb⟩
 have HV := Lib.hid (modV_1 (fs := fs) hc1)
 go_upto_region 2 with (first | (refine zla (.tmp 4) B0 Try.underlying24 Try.size24 ?_) | (refine wpList_build_polys rfl 40 _ [m] rfl 24 rfl Try.underlying40 Try.elem24 (by simp) (by simp) rfl ?_; intro wa hwa hps hba; clear hwa) | (go_at_call 131; refine (checkPolys_any p [m] (by simp [hmb]) _ _ hps (by simp)).mono ?_; rintro e W2 ⟨rfl, hbb⟩; replace B0 := B0.below (hba.trans (hbb.mono hba.size)) B0.lt; replace hb := hb.trans ((hba.trans (hbb.mono hba.size)).mono hb.size); clear hps; rw [hc1]))
 go_wp2_with fail
 go_ret
 exact ⟨ret_int HV.out.symm, hb⟩
theorem l02Modulus_any (p : Int) (m : Nat → Nat) (hmb : byte m) (fs : List (Nat → Nat)) (hfs : ∀ f ∈ fs, byte f) (bb : Nat) (w : World) (hs : PolS w bb fs) (hl : fs.length ≤ 8) :
 Calls Try.prog 116 #[.int .i64 p, .agg (zb 64 m), .slice (some ⟨bb, 0, none⟩) fs.length fs.length] w fun e w' => e = .returned (.int .i64 (modV p m fs)) ∧ Below w.heap.size w w' := by
 obtain ⟨fb1, fb2⟩ := zdb m
 have hslt := hs.lt
 go_enter Try.func116, Try.ntmps116
 go_upto_region 1 with (fail)
 obtain ⟨W1, hwo⟩ : ∃ v : World, v = (w.alloc (.cells (zb 64 (m)) 24)) := ⟨_, rfl⟩
 have B0 : Blk W1 (w.heap.size) 64 24 (m) := by subst hwo; have := (Blk.new w 64 24 (m)); simpa using this
 have hb : Below w.heap.size w W1 := by subst hwo; exact ((Below.refl _ _).alloc (Nat.le_refl _) _)
 rw [← hwo]
 clear hwo
 rcases codeL_two p [m] with hc1 | hc1
 · rcases codeL_two p fs with hc2 | hc2
   · cases hm5 : monUp 5 m with
     | false =>
      have HV := Lib.hid (modV_3 hc1 hc2 hm5)
      go_upto_region 3 with (first | (refine zla (.tmp 4) B0 Try.underlying24 Try.size24 ?_) | (refine wpList_build_polys rfl 40 _ [m] rfl 24 rfl Try.underlying40 Try.elem24 (by simp) (by simp) rfl ?_; intro wa hwa hps hba; clear hwa) | (go_at_call 122; refine (l01Code_any p [m] (by simp [hmb]) _ _ hps (by simp)).mono ?_; rintro e W2 ⟨rfl, hbb⟩; replace B0 := B0.below (hba.trans (hbb.mono hba.size)) B0.lt; replace hb := hb.trans ((hba.trans (hbb.mono hba.size)).mono hb.size); clear hps; rw [hc1]) | (go_at_call 122; refine (l01Code_any p fs hfs bb _ (hs.below hb hslt) hl).mono ?_; rintro e W3 ⟨rfl, hb3⟩; replace B0 := B0.zw hb3; replace hb := hb.trans (hb3.mono hb.size); rw [hc2]))
      clear hba hbb hb3 hs hslt hfs
      cases hmo : monB m with
      | false =>
       go_upto_region 4 with (first | (refine zla (.tmp 4) B0 Try.underlying24 Try.size24 ?_) | (go_at_call 123; refine (l01Monic_any m hmb _).mono ?_; rintro e W2 ⟨rfl, hW2⟩; replace B0 := B0.zw hW2; replace hb := (hb).trans (hW2.mono (hb).size); rw [hmo]))
       go_wp2_with fail
       go_ret
       exact ⟨ret_int HV.out.symm, hb⟩
      | true =>
       have hnr : ¬ (1 ≤ deg m ∧ deg m ≤ 5) := by intro h; rw [monUp_B, hmo] at hm5; simp at hm5; omega
       go_upto_region 4 with (first | (refine zla (.tmp 4) B0 Try.underlying24 Try.size24 ?_) | (go_at_call 123; refine (l01Monic_any m hmb _).mono ?_; rintro e W2 ⟨rfl, hW2⟩; replace B0 := B0.zw hW2; replace hb := (hb).trans (hW2.mono (hb).size); rw [hmo]) | (refine zlg rfl 24 (.tmp 4) rfl _ rfl 64 24 _ (B0) _ Try.underlying24 rfl Try.size24 ?_) | (go_at_call 124; refine (l01Deg_any m _).mono ?_; rintro e W3 ⟨rfl, hW3⟩; replace B0 := B0.zw hW3; replace hb := (hb).trans (hW3.mono (hb).size)) | (go_at_call 98; refine (l01In_no (deg m) 1 5 hnr _).mono ?_; rintro e wS ⟨rfl, rfl⟩))
       go_wp2_with fail
       go_ret
       exact ⟨ret_int HV.out.symm, hb⟩
     | true =>
      have HV := Lib.hid (modV_0 hc1 hc2 hm5)
      go_upto_region 3 with (first | (refine zla (.tmp 4) B0 Try.underlying24 Try.size24 ?_) | (refine wpList_build_polys rfl 40 _ [m] rfl 24 rfl Try.underlying40 Try.elem24 (by simp) (by simp) rfl ?_; intro wa hwa hps hba; clear hwa) | (go_at_call 122; refine (l01Code_any p [m] (by simp [hmb]) _ _ hps (by simp)).mono ?_; rintro e W2 ⟨rfl, hbb⟩; replace B0 := B0.below (hba.trans (hbb.mono hba.size)) B0.lt; replace hb := hb.trans ((hba.trans (hbb.mono hba.size)).mono hb.size); clear hps; rw [hc1]) | (go_at_call 122; refine (l01Code_any p fs hfs bb _ (hs.below hb hslt) hl).mono ?_; rintro e W3 ⟨rfl, hb3⟩; replace B0 := B0.zw hb3; replace hb := hb.trans (hb3.mono hb.size); rw [hc2]))
      clear hba hbb hb3 hs hslt hfs
      have hmo : monB m = true := by cases h : monB m with | true => rfl | false => rw [monUp_B, h] at hm5; simp at hm5
      have hyr : 1 ≤ deg m ∧ deg m ≤ 5 := by rw [monUp_B, hmo] at hm5; simpa using hm5
      go_upto_region 5 with (first | (refine zla (.tmp 4) B0 Try.underlying24 Try.size24 ?_) | (go_at_call 123; refine (l01Monic_any m hmb _).mono ?_; rintro e W2 ⟨rfl, hW2⟩; replace B0 := B0.zw hW2; replace hb := (hb).trans (hW2.mono (hb).size); rw [hmo]) | (refine zlg rfl 24 (.tmp 4) rfl _ rfl 64 24 _ (B0) _ Try.underlying24 rfl Try.size24 ?_) | (go_at_call 124; refine (l01Deg_any m _).mono ?_; rintro e W3 ⟨rfl, hW3⟩; replace B0 := B0.zw hW3; replace hb := (hb).trans (hW3.mono (hb).size)) | (go_at_call 98; refine (l01In_yes (deg m) 1 5 hyr _).mono ?_; rintro e wS ⟨rfl, rfl⟩))
      go_wp2_with fail
      go_ret
      exact ⟨ret_int HV.out.symm, hb⟩
   have HV := Lib.hid (modV_2 (m := m) hc2)
   go_upto_region 2 with (first | (refine zla (.tmp 4) B0 Try.underlying24 Try.size24 ?_) | (refine wpList_build_polys rfl 40 _ [m] rfl 24 rfl Try.underlying40 Try.elem24 (by simp) (by simp) rfl ?_; intro wa hwa hps hba; clear hwa) | (go_at_call 122; refine (l01Code_any p [m] (by simp [hmb]) _ _ hps (by simp)).mono ?_; rintro e W2 ⟨rfl, hbb⟩; replace B0 := B0.below (hba.trans (hbb.mono hba.size)) B0.lt; replace hb := hb.trans ((hba.trans (hbb.mono hba.size)).mono hb.size); clear hps; rw [hc1]) | (go_at_call 122; refine (l01Code_any p fs hfs bb _ (hs.below hb hslt) hl).mono ?_; rintro e W3 ⟨rfl, hb3⟩; replace B0 := B0.zw hb3; replace hb := hb.trans (hb3.mono hb.size); rw [hc2]))
   go_wp2_with fail
   go_ret
   exact ⟨ret_int HV.out.symm, hb⟩
 have HV := Lib.hid (modV_1 (fs := fs) hc1)
 go_upto_region 2 with (first | (refine zla (.tmp 4) B0 Try.underlying24 Try.size24 ?_) | (refine wpList_build_polys rfl 40 _ [m] rfl 24 rfl Try.underlying40 Try.elem24 (by simp) (by simp) rfl ?_; intro wa hwa hps hba; clear hwa) | (go_at_call 122; refine (l01Code_any p [m] (by simp [hmb]) _ _ hps (by simp)).mono ?_; rintro e W2 ⟨rfl, hbb⟩; replace B0 := B0.below (hba.trans (hbb.mono hba.size)) B0.lt; replace hb := hb.trans ((hba.trans (hbb.mono hba.size)).mono hb.size); clear hps; rw [hc1]))
 go_wp2_with fail
 go_ret
 exact ⟨ret_int HV.out.symm, hb⟩
end Go.Proofs.Yteloknnooebabaa
namespace Go.Proofs.Yteloknnooebabaa
open Go.RowKit
attribute [local irreducible] deg invN dS qS stp stpr quoP resP oneP
theorem modV_cases {p : Int} {m : Nat → Nat} {fs : List (Nat → Nat)} : (∃ c, modV p m fs = c ∧ c ≠ 0 ∧ (c = 1 ∨ c = 2)) ∨ (modV p m fs = 0 ∧ codeL p [m] = 0 ∧ codeL p fs = 0 ∧ monUp 5 m = true) := by
 rcases codeL_two p [m] with h1 | h1
 · rcases codeL_two p fs with h2 | h2
   · cases h : monUp 5 m with
     | false => exact .inl ⟨2, modV_3 h1 h2 h, by decide, .inr rfl⟩
     | true => exact .inr ⟨modV_0 h1 h2 h, h1, h2, rfl⟩
   exact .inl ⟨1, modV_2 h2, by decide, .inl rfl⟩
 exact .inl ⟨1, modV_1 h1, by decide, .inl rfl⟩
end Go.Proofs.Yteloknnooebabaa
namespace Go.Proofs.Yteloknnooebabaa
open Go Go.RowKit
attribute [local irreducible] deg resP acS caC moC
def aoV (p : Int) (a x m : Nat → Nat) : (Nat → Nat) × Int := if modV p m [a, x] = 0 then (acS p.toNat m a (resP p.toNat x m) (deg a + 1).toNat, 0) else (fun _ => 0, modV p m [a, x])
theorem aoV_code {p c : Int} {a x m : Nat → Nat} (h : modV p m [a, x] = c) (h2 : c ≠ 0) : aoV p a x m = (fun _ => 0, c) := by unfold aoV; rw [h, if_neg h2]
theorem aoV_ok {n : Nat} {a x m : Nat → Nat} (h : modV (n : Int) m [a, x] = 0) : aoV (n : Int) a x m = (acS n m a (resP n x m) (deg a + 1).toNat, 0) := by unfold aoV; rw [if_pos h]; rfl
theorem spec_ActOnResidue_any (p : Int) (a x m : Nat → Nat) (ha : byte a) (hx : byte x) (hm : byte m) (w : World) :
 Calls Try.prog 47 #[.int .i64 p, .agg (zb 64 a), .agg (zb 64 x), .agg (zb 64 m)] w fun e w' => e = .returned (.tuple #[.agg (zb 64 (aoV p a x m).1), .int .i64 (aoV p a x m).2]) ∧ Below w.heap.size w w' := by
 go_enter Try.func47, Try.ntmps47
 go_upto_region 1 with (fail)
 rw [← z64]
 obtain ⟨W1, hwo⟩ : ∃ v : World, v = ((((w.alloc (.cells (zb 64 (a)) 24)).alloc (.cells (zb 64 (x)) 24)).alloc (.cells (zb 64 (m)) 24)).alloc (.cells (zb 64 (fun _ => 0)) 24)) := ⟨_, rfl⟩
 have B0 : Blk W1 (w.heap.size) 64 24 (a) := by subst hwo; have := ((((Blk.new w 64 24 (a)).alloc (.cells (zb 64 (x)) 24)).alloc (.cells (zb 64 (m)) 24)).alloc (.cells (zb 64 (fun _ => 0)) 24)); simpa using this
 have B1 : Blk W1 (w.heap.size + 1) 64 24 (x) := by subst hwo; have := (((Blk.new (w.alloc (.cells (zb 64 (a)) 24)) 64 24 (x)).alloc (.cells (zb 64 (m)) 24)).alloc (.cells (zb 64 (fun _ => 0)) 24)); simpa using this
 have B2 : Blk W1 (w.heap.size + 1 + 1) 64 24 (m) := by subst hwo; have := ((Blk.new ((w.alloc (.cells (zb 64 (a)) 24)).alloc (.cells (zb 64 (x)) 24)) 64 24 (m)).alloc (.cells (zb 64 (fun _ => 0)) 24)); simpa using this
 have B3 : Blk W1 (w.heap.size + 1 + 1 + 1) 64 24 (fun _ => 0) := by subst hwo; have := (Blk.new (((w.alloc (.cells (zb 64 (a)) 24)).alloc (.cells (zb 64 (x)) 24)).alloc (.cells (zb 64 (m)) 24)) 64 24 (fun _ => 0)); simpa using this
 have hb : Below w.heap.size w W1 := by subst hwo; exact (((((Below.refl _ _).alloc (Nat.le_refl _) _).alloc (by simp) _).alloc (by simp; omega) _).alloc (by simp; omega) _)
 rw [← hwo]
 clear hwo
 go_upto_region 2 with (first | (refine zla (.tmp 7) B2 Try.underlying24 Try.size24 ?_) | (refine zla (.tmp 5) B0 Try.underlying24 Try.size24 ?_) | (refine zla (.tmp 6) B1 Try.underlying24 Try.size24 ?_) | (refine wpList_build_polys rfl 40 _ [a, x] rfl 24 rfl Try.underlying40 Try.elem24 (by simp) (by simp) rfl ?_; intro wa hwa hps hba; clear hwa) | (go_at_call 116; refine (l02Modulus_any p m hm [a, x] (by simp [ha, hx]) _ _ hps (by simp)).mono ?_; rintro e W2 ⟨rfl, hbb⟩))
 have hBB : Below W1.heap.size W1 W2 := hba.trans (hbb.mono hba.size)
 replace B0 := B0.zw hBB
 replace B1 := B1.zw hBB
 replace B2 := B2.zw hBB
 replace B3 := B3.zw hBB
 replace hb := hb.trans (hBB.mono hb.size)
 clear hBB hba hbb hps
 rcases modV_cases (p := p) (m := m) (fs := [a, x]) with ⟨c, hc, hc0, hc12⟩ | ⟨hc, hcm, hcf, hm5⟩
 · have HV := Lib.hid (aoV_code hc hc0)
   rw [hc]
   clear hc
   have hb1 : ((c : Int) != 0) = true := by simp [hc0]
   go_upto_region 3 with (fail)
   have lt_B0 := B0.lt
   have lt_B1 := B1.lt
   have lt_B2 := B2.lt
   have lt_B3 := B3.lt
   go_wp2_with (first | rw [← z64] | (refine zsr (.tmp 8) (.tmp 19) (fun _ => 0) B3 Try.size24 ?_; try simp only [Act.put]; go_wp2_with fail))
   obtain ⟨W11, hwo, hzQ⟩ : ∃ v : World, v = (W2.setRow (w.heap.size + 1 + 1 + 1) (zb 64 (fun _ => 0))) ∧ Blk v (w.heap.size) 64 24 (a) ∧ Blk v (w.heap.size + 1) 64 24 (x) ∧ Blk v (w.heap.size + 1 + 1) 64 24 (m) ∧ Blk v (w.heap.size + 1 + 1 + 1) 64 24 (fun _ => 0) ∧ Below w.heap.size w v := ⟨_, rfl, (B0.rowOther (by omega)), (B1.rowOther (by omega)), (B2.rowOther (by omega)), (B3.row (fun _ => 0)), (zr hb (by omega) _)⟩
   rw [← hwo]
   clear hwo B0 B1 B2 B3 hb
   obtain ⟨B0, B1, B2, B3, hb⟩ := hzQ
   try simp only [Act.put, pA, pB, pC]
   refine bodyPost_ret (results_bt rfl _ _ _ 64 24 5 _ rfl B3 Try.underlying24 Try.size24) rfl ⟨by first | (rw [HV.out]; rfl) | rw [HV.out], hb⟩
 obtain ⟨n, hn, n2, n7⟩ := okP_nat (codeL_zero hcf).1
 subst hn
 have la := lt_of_code hcf (f := a) (by simp)
 have lx := lt_of_code hcf (f := x) (by simp)
 have lm := lt_of_code hcm (f := m) (by simp)
 have hpr := prime_of hcf
 obtain ⟨d, hmon, hd1, hd5⟩ := mon_up hm5
 have h0 : 0 ≤ deg m := by rw [hmon.1]; omega
 have h9 : deg m ≤ 9 := by rw [hmon.1]; omega
 have HV := Lib.hid (aoV_ok hc)
 have HAC := Lib.hid (fun W => l04Act_any n a x m W hpr la lx lm h0)
 rw [hc]
 clear hc hmon hd1 hd5 hm5 hcm hcf
 go_upto_region 4 with (fail)
 have lt_B0 := B0.lt
 have lt_B1 := B1.lt
 have lt_B2 := B2.lt
 have lt_B3 := B3.lt
 go_wp2_with (first | rw [← z64] | (refine zla (.tmp 5) B0 Try.underlying24 Try.size24 ?_) | (refine zla (.tmp 6) B1 Try.underlying24 Try.size24 ?_) | (refine zla (.tmp 7) B2 Try.underlying24 Try.size24 ?_) | (go_at_call 117; refine (HAC.out _).mono ?_; rintro e W11 ⟨rfl, hW11⟩; replace B0 := B0.zw hW11; replace B1 := B1.zw hW11; replace B2 := B2.zw hW11; replace B3 := B3.zw hW11; replace hb := (hb).trans (hW11.mono (hb).size)) | (refine zsr (.tmp 8) (.tmp 25) (acS n m a (resP n x m) (deg a + 1).toNat) B3 Try.size24 ?_; try simp only [Act.put]; go_wp2_with fail))
 obtain ⟨W12, hwo, hzQ⟩ : ∃ v : World, v = (W11.setRow (w.heap.size + 1 + 1 + 1) (zb 64 (acS n m a (resP n x m) (deg a + 1).toNat))) ∧ Blk v (w.heap.size) 64 24 (a) ∧ Blk v (w.heap.size + 1) 64 24 (x) ∧ Blk v (w.heap.size + 1 + 1) 64 24 (m) ∧ Blk v (w.heap.size + 1 + 1 + 1) 64 24 (acS n m a (resP n x m) (deg a + 1).toNat) ∧ Below w.heap.size w v := ⟨_, rfl, (B0.rowOther (by omega)), (B1.rowOther (by omega)), (B2.rowOther (by omega)), (B3.row (acS n m a (resP n x m) (deg a + 1).toNat)), (zr hb (by omega) _)⟩
 rw [← hwo]
 clear hwo B0 B1 B2 B3 hb
 obtain ⟨B0, B1, B2, B3, hb⟩ := hzQ
 try simp only [Act.put, pA, pB, pC]
 refine bodyPost_ret (results_bt rfl _ _ _ 64 24 5 _ rfl B3 Try.underlying24 Try.size24) rfl ⟨by first | (rw [HV.out]; rfl) | rw [HV.out], hb⟩
theorem impl_ActOnResidue_any (p : Int) (a x m : Nat → Nat) (ha : byte a) (hx : byte x) (hm : byte m) (w : World) :
 Calls Try.prog 48 #[.int .i64 p, .agg (zb 64 a), .agg (zb 64 x), .agg (zb 64 m)] w fun e w' => e = .returned (.tuple #[.agg (zb 64 (aoV p a x m).1), .int .i64 (aoV p a x m).2]) ∧ Below w.heap.size w w' := by
 go_enter Try.func48, Try.ntmps48
 go_upto_region 1 with (fail)
 rw [← z64]
 obtain ⟨W1, hwo⟩ : ∃ v : World, v = ((((w.alloc (.cells (zb 64 (a)) 24)).alloc (.cells (zb 64 (x)) 24)).alloc (.cells (zb 64 (m)) 24)).alloc (.cells (zb 64 (fun _ => 0)) 24)) := ⟨_, rfl⟩
 have B0 : Blk W1 (w.heap.size) 64 24 (a) := by subst hwo; have := ((((Blk.new w 64 24 (a)).alloc (.cells (zb 64 (x)) 24)).alloc (.cells (zb 64 (m)) 24)).alloc (.cells (zb 64 (fun _ => 0)) 24)); simpa using this
 have B1 : Blk W1 (w.heap.size + 1) 64 24 (x) := by subst hwo; have := (((Blk.new (w.alloc (.cells (zb 64 (a)) 24)) 64 24 (x)).alloc (.cells (zb 64 (m)) 24)).alloc (.cells (zb 64 (fun _ => 0)) 24)); simpa using this
 have B2 : Blk W1 (w.heap.size + 1 + 1) 64 24 (m) := by subst hwo; have := ((Blk.new ((w.alloc (.cells (zb 64 (a)) 24)).alloc (.cells (zb 64 (x)) 24)) 64 24 (m)).alloc (.cells (zb 64 (fun _ => 0)) 24)); simpa using this
 have B3 : Blk W1 (w.heap.size + 1 + 1 + 1) 64 24 (fun _ => 0) := by subst hwo; have := (Blk.new (((w.alloc (.cells (zb 64 (a)) 24)).alloc (.cells (zb 64 (x)) 24)).alloc (.cells (zb 64 (m)) 24)) 64 24 (fun _ => 0)); simpa using this
 have hb : Below w.heap.size w W1 := by subst hwo; exact (((((Below.refl _ _).alloc (Nat.le_refl _) _).alloc (by simp) _).alloc (by simp; omega) _).alloc (by simp; omega) _)
 rw [← hwo]
 clear hwo
 go_upto_region 2 with (first | (refine zla (.tmp 7) B2 Try.underlying24 Try.size24 ?_) | (refine zla (.tmp 5) B0 Try.underlying24 Try.size24 ?_) | (refine zla (.tmp 6) B1 Try.underlying24 Try.size24 ?_) | (refine wpList_build_polys rfl 40 _ [a, x] rfl 24 rfl Try.underlying40 Try.elem24 (by simp) (by simp) rfl ?_; intro wa hwa hps hba; clear hwa) | (go_at_call 118; refine (checkModulus_any p m hm [a, x] (by simp [ha, hx]) _ _ hps (by simp)).mono ?_; rintro e W2 ⟨rfl, hbb⟩))
 have hBB : Below W1.heap.size W1 W2 := hba.trans (hbb.mono hba.size)
 replace B0 := B0.zw hBB
 replace B1 := B1.zw hBB
 replace B2 := B2.zw hBB
 replace B3 := B3.zw hBB
 replace hb := hb.trans (hBB.mono hb.size)
 clear hBB hba hbb hps
 rcases modV_cases (p := p) (m := m) (fs := [a, x]) with ⟨c, hc, hc0, hc12⟩ | ⟨hc, hcm, hcf, hm5⟩
 · have HV := Lib.hid (aoV_code hc hc0)
   rw [hc]
   clear hc
   have hb1 : ((c : Int) != 0) = true := by simp [hc0]
   go_upto_region 3 with (fail)
   have lt_B0 := B0.lt
   have lt_B1 := B1.lt
   have lt_B2 := B2.lt
   have lt_B3 := B3.lt
   go_wp2_with (first | rw [← z64] | (refine zsr (.tmp 8) (.tmp 19) (fun _ => 0) B3 Try.size24 ?_; try simp only [Act.put]; go_wp2_with fail))
   obtain ⟨W11, hwo, hzQ⟩ : ∃ v : World, v = (W2.setRow (w.heap.size + 1 + 1 + 1) (zb 64 (fun _ => 0))) ∧ Blk v (w.heap.size) 64 24 (a) ∧ Blk v (w.heap.size + 1) 64 24 (x) ∧ Blk v (w.heap.size + 1 + 1) 64 24 (m) ∧ Blk v (w.heap.size + 1 + 1 + 1) 64 24 (fun _ => 0) ∧ Below w.heap.size w v := ⟨_, rfl, (B0.rowOther (by omega)), (B1.rowOther (by omega)), (B2.rowOther (by omega)), (B3.row (fun _ => 0)), (zr hb (by omega) _)⟩
   rw [← hwo]
   clear hwo B0 B1 B2 B3 hb
   obtain ⟨B0, B1, B2, B3, hb⟩ := hzQ
   try simp only [Act.put, pA, pB, pC]
   refine bodyPost_ret (results_bt rfl _ _ _ 64 24 5 _ rfl B3 Try.underlying24 Try.size24) rfl ⟨by first | (rw [HV.out]; rfl) | rw [HV.out], hb⟩
 obtain ⟨n, hn, n2, n7⟩ := okP_nat (codeL_zero hcf).1
 subst hn
 have la := lt_of_code hcf (f := a) (by simp)
 have lx := lt_of_code hcf (f := x) (by simp)
 have lm := lt_of_code hcm (f := m) (by simp)
 have hpr := prime_of hcf
 obtain ⟨d, hmon, hd1, hd5⟩ := mon_up hm5
 have h0 : 0 ≤ deg m := by rw [hmon.1]; omega
 have h9 : deg m ≤ 9 := by rw [hmon.1]; omega
 have HV := Lib.hid (aoV_ok hc)
 have HRO := Lib.hid (fun W => restOf_any n x m W hpr lx lm h0)
 have HMD := Lib.hid (fun W => cmodule_any n m W)
 have HAC := Lib.hid (fun W => mact_any n a (resP n x m) m W la hpr (resP_lt (by omega) lx) lm h0 h9 (resP_deg hpr lx lm h0).1)
 rw [hc]
 clear hc hmon hd1 hd5 hm5 hcm hcf
 go_upto_region 4 with (fail)
 have lt_B0 : (w.heap.size) < W2.heap.size := B0.lt
 have lt_B1 : (w.heap.size + 1) < W2.heap.size := B1.lt
 have lt_B2 : (w.heap.size + 1 + 1) < W2.heap.size := B2.lt
 have lt_B3 : (w.heap.size + 1 + 1 + 1) < W2.heap.size := B3.lt
 have hbase : w.heap.size ≤ W2.heap.size := hb.size
 refine zq Try.mixed (by kernel_rfl) (by kernel_rfl) (fun v => by (simp only [frL, Act.put, pA, pB, pC, Nat.reduceAdd, Nat.zero_add]; exact rfl))
  (fun L v W11 => Below w.heap.size w W11 ∧ Kx [w.heap.size + 1 + 1 + 1] W2 W11 ∧ (∃ g, Blk W11 (w.heap.size + 1 + 1 + 1) 64 24 (g)) ∧ (L 10 = false → Blk W11 (w.heap.size + 1 + 1 + 1) 64 24 (fun _ => 0)) ∧ (L 10 = true → Blk W11 (w.heap.size + 1 + 1 + 1) 64 24 (acS n m a (resP n x m) (deg a + 1).toNat)) ∧ VF L v [some (.int .i64 (n : Int)), some (.agg (zb 64 (m))), some (.agg (caC n m).toArray), some (.agg (moC (n : Int) (deg m) (.func (.func 205) #[.agg (caC n m).toArray] #[])).toArray), some (.agg (zb 64 (a))), some (.int .i64 (n : Int)), some (.agg (zb 64 (x))), some (.agg (zb 64 (m))), some (.agg (zb 64 (resP n x m))), some (.agg (zb 64 (acS n m a (resP n x m) (deg a + 1).toNat))), none, some (.int .i64 0)]) ?_ ?_ ?_
 · intro v hv0
   exact ⟨hb.drew, Kx.start _ _, ⟨_, B3.drew⟩, (fun _ => B3.drew), (fun h => by cases h), VF.start⟩
 · refine (.cons rfl ?_ (.cons rfl ?_ (.cons rfl ?_ (.cons rfl ?_ (.cons rfl ?_ (.cons rfl ?_ (.cons rfl ?_ (.cons rfl ?_ (.cons rfl ?_ (.cons rfl ?_ (.cons rfl ?_ (.cons rfl ?_ (.nil _)))))))))))))
   all_goals intro L v W11 hd hn ⟨hB, hX, x3, q3, n3, V⟩ K hK
   · go_wp2_with fail
     exact hK _ (.int .i64 (n : Int)) _ (by simp only [Act.put, pA, pB, pC ]) ⟨hB, hX, x3, q3, n3, V.step 0 rfl⟩
   · refine wp_load_any 24 _ rfl _ rfl 64 24 _ (B2.kx hX (by simp <;> omega)) _ Try.underlying24 rfl Try.size24 ?_
     exact hK _ _ _ rfl ⟨hB, hX, x3, q3, n3, V.step 1 rfl⟩
   · have e0 := V.at (zdq hd 0 rfl) rfl
     have e1 := V.at (zdq hd 1 rfl) rfl
     refine wp_build_of 119 _ rfl (caC n m).toArray (by rw [Array.toList_map]; simp only [e0, e1, Act.eval]; exact built_ca n m) ?_
     exact hK _ _ _ rfl ⟨hB, hX, x3, q3, n3, V.step 2 rfl⟩
   · have e2 := V.at (zdq hd 2 rfl) rfl
     go_wp2_with (go_at_call 119; refine (HMD.out _).mono ?_; rintro e wy ⟨rfl, hy⟩)
     exact hK _ (.agg (moC (n : Int) (deg m) (.func (.func 205) #[.agg (caC n m).toArray] #[])).toArray) _ (by simp only [Act.put, pA, pB, pC, e2]) ⟨hB.trans (hy.mono hB.size), hX.below hy, (let ⟨g, h⟩ := x3; ⟨g, h.zw hy⟩), (fun h => (q3 h).below hy (q3 h).lt), (fun h => (n3 h).below hy (n3 h).lt), V.step 3 rfl⟩
   · refine wp_load_any 24 _ rfl _ rfl 64 24 _ (B0.kx hX (by simp <;> omega)) _ Try.underlying24 rfl Try.size24 ?_
     exact hK _ _ _ rfl ⟨hB, hX, x3, q3, n3, V.step 4 rfl⟩
   · go_wp2_with fail
     exact hK _ (.int .i64 (n : Int)) _ (by simp only [Act.put, pA, pB, pC ]) ⟨hB, hX, x3, q3, n3, V.step 5 rfl⟩
   · refine wp_load_any 24 _ rfl _ rfl 64 24 _ (B1.kx hX (by simp <;> omega)) _ Try.underlying24 rfl Try.size24 ?_
     exact hK _ _ _ rfl ⟨hB, hX, x3, q3, n3, V.step 6 rfl⟩
   · refine wp_load_any 24 _ rfl _ rfl 64 24 _ (B2.kx hX (by simp <;> omega)) _ Try.underlying24 rfl Try.size24 ?_
     exact hK _ _ _ rfl ⟨hB, hX, x3, q3, n3, V.step 7 rfl⟩
   · have e5 := V.at (zdq hd 5 rfl) rfl
     have e6 := V.at (zdq hd 6 rfl) rfl
     have e7 := V.at (zdq hd 7 rfl) rfl
     go_wp2_with (go_at_call 121; refine (HRO.out _).mono ?_; rintro e wy ⟨rfl, hy⟩)
     exact hK _ (.agg (zb 64 (resP n x m))) _ (by simp only [Act.put, pA, pB, pC, e5, e6, e7]) ⟨hB.trans (hy.mono hB.size), hX.below hy, (let ⟨g, h⟩ := x3; ⟨g, h.zw hy⟩), (fun h => (q3 h).below hy (q3 h).lt), (fun h => (n3 h).below hy (n3 h).lt), V.step 8 rfl⟩
   · have e3 := V.at (zdq hd 3 rfl) rfl
     have e4 := V.at (zdq hd 4 rfl) rfl
     have e8 := V.at (zdq hd 8 rfl) rfl
     go_wp2_with (go_at_call 120; refine (HAC.out _).mono ?_; rintro e wy ⟨rfl, hy⟩)
     exact hK _ (.agg (zb 64 (acS n m a (resP n x m) (deg a + 1).toNat))) _ (by simp only [Act.put, pA, pB, pC, e3, e4, e8]) ⟨hB.trans (hy.mono hB.size), hX.below hy, (let ⟨g, h⟩ := x3; ⟨g, h.zw hy⟩), (fun h => (q3 h).below hy (q3 h).lt), (fun h => (n3 h).below hy (n3 h).lt), V.step 9 rfl⟩
   · have e9 := V.at (zdq hd 9 rfl) rfl
     obtain ⟨gz, hk⟩ := x3
     refine zsb 24 _ _ rfl _ 64 (acS n m a (resP n x m) (deg a + 1).toNat) rfl e9 24 gz hk Try.size24 ?_
     exact hK _ undef _ rfl ⟨zr hB (by omega) _, hX.row (by simp) _, ⟨_, hk.row _⟩, (fun h => absurd h (by simp [setL])), (fun _ => hk.row _), V.skip 10 rfl⟩
   go_wp2_with fail
   exact hK _ (.int .i64 0) _ (by simp only [Act.put, pA, pB, pC ]) ⟨hB, hX, x3, q3, n3, V.step 11 rfl⟩
 intro L v W11 hL ⟨hB, hX, x3, q3, n3, V⟩
 have r3 := n3 (hL 10 (by decide))
 have e0 := V.at (hL 0 (by decide)) rfl
 have e1 := V.at (hL 1 (by decide)) rfl
 have e2 := V.at (hL 2 (by decide)) rfl
 have e3 := V.at (hL 3 (by decide)) rfl
 have e4 := V.at (hL 4 (by decide)) rfl
 have e5 := V.at (hL 5 (by decide)) rfl
 have e6 := V.at (hL 6 (by decide)) rfl
 have e7 := V.at (hL 7 (by decide)) rfl
 have e8 := V.at (hL 8 (by decide)) rfl
 have e9 := V.at (hL 9 (by decide)) rfl
 have e11 := V.at (hL 11 (by decide)) rfl
 clear hL x3 q3 n3 V
 replace B0 := B0.kx hX (by simp <;> omega)
 replace B1 := B1.kx hX (by simp <;> omega)
 replace B2 := B2.kx hX (by simp <;> omega)
 clear hX
 simp only [Exit.then, e0, e1, e2, e3, e4, e5, e6, e7, e8, e9, e11]
 clear e0 e1 e2 e3 e4 e5 e6 e7 e8 e9 e11
 replace B3 := r3
 clear r3
 replace hb := hB
 clear hB
 clear hbase lt_B0 lt_B1 lt_B2 lt_B3
 go_wp2_with fail
 refine bodyPost_ret (results_bt rfl _ _ _ 64 24 5 _ rfl B3 Try.underlying24 Try.size24) rfl ⟨by first | (rw [HV.out]; rfl) | rw [HV.out], hb⟩
end Go.Proofs.Yteloknnooebabaa
namespace Go.Proofs.Yteloknnooebabaa
open Go.RowKit
theorem FnExactActOnResidue_walk (p : Int) (a : Nat → Nat) (x : Nat → Nat) (m : Nat → Nat) (ha : byte a) (hx : byte x) (hm : byte m) (w : World) :
 Calls Try.prog 10 #[.int .i64 p, .agg (zb 64 a), .agg (zb 64 x), .agg (zb 64 m)] w fun e w' => e = .returned (.bool true) ∧ Below w.heap.size w w' := by
 go_enter Try.func10, Try.ntmps10
 go_upto_region 1 with (fail)
 obtain ⟨wo, hwo⟩ : ∃ wo : World, wo = (((w.alloc (.cells (zb 64 a) 22)).alloc (.cells (zb 64 x) 22)).alloc (.cells (zb 64 m) 22)) := ⟨_, rfl⟩
 have ba : Blk wo (w.heap.size) 64 22 a := by subst hwo; have := (((Blk.new w 64 22 a).alloc (.cells (zb 64 x) 22)).alloc (.cells (zb 64 m) 22)); simpa using this
 have bx : Blk wo (w.heap.size + 1) 64 22 x := by subst hwo; have := ((Blk.new (w.alloc (.cells (zb 64 a) 22)) 64 22 x).alloc (.cells (zb 64 m) 22)); simpa using this
 have bm : Blk wo (w.heap.size + 1 + 1) 64 22 m := by subst hwo; have := (Blk.new ((w.alloc (.cells (zb 64 a) 22)).alloc (.cells (zb 64 x) 22)) 64 22 m); simpa using this
 have hb : Below w.heap.size w wo := by subst hwo; exact ((((Below.refl _ _).alloc (Nat.le_refl _) _).alloc (by simp) _).alloc (by simp; omega) _)
 rw [← hwo]
 clear hwo
 refine wp_region_steps Try.mixed (by kernel_rfl) (by kernel_rfl) (fun v => by (simp only [frL, Act.put, pA, pB, pC, Nat.reduceAdd, Nat.zero_add]; exact rfl))
  (fun L v w1 => Below wo.heap.size wo w1 ∧ (L 0 = true → v 0 = (.int .i64 p)) ∧ (L 1 = true → v 1 = (.agg (zb 64 (a)))) ∧ (L 2 = true → v 2 = (.agg (zb 64 (a)))) ∧ (L 3 = true → v 3 = (.agg (zb 64 (x)))) ∧ (L 4 = true → v 4 = (.agg (zb 64 (x)))) ∧ (L 5 = true → v 5 = (.agg (zb 64 (m)))) ∧ (L 6 = true → v 6 = (.agg (zb 64 (m)))) ∧ (L 7 = true → v 7 = (.tuple #[(.agg (zb 64 ((aoV p a x m).1))), (.int .i64 ((aoV p a x m).2))])) ∧ (L 8 = true → v 8 = (.tuple #[(.agg (zb 64 ((aoV p a x m).1))), (.int .i64 ((aoV p a x m).2))])) ∧ (L 9 = true → v 9 = (.agg (zb 64 ((aoV p a x m).1)))) ∧ (L 10 = true → v 10 = (.int .i64 ((aoV p a x m).2))) ∧ (L 11 = true → AF (v 11) w1 wo.heap.size 64 24) ∧ (L 12 = true → PF (v 11) w1 wo.heap.size 64 24 ((aoV p a x m).1)) ∧ (L 13 = true → v 13 = (.int .i64 ((aoV p a x m).2)))) ?_ ?_ ?_
 · intro v
   exact ⟨(Below.refl _ _).drew, (fun h => by cases h), (fun h => by cases h), (fun h => by cases h), (fun h => by cases h), (fun h => by cases h), (fun h => by cases h), (fun h => by cases h), (fun h => by cases h), (fun h => by cases h), (fun h => by cases h), (fun h => by cases h), (fun h => by cases h), (fun h => by cases h), (fun h => by cases h)⟩
 · refine (.cons rfl ?_ (.cons rfl ?_ (.cons rfl ?_ (.cons rfl ?_ (.cons rfl ?_ (.cons rfl ?_ (.cons rfl ?_ (.cons rfl ?_ (.cons rfl ?_ (.cons rfl ?_ (.cons rfl ?_ (.cons rfl ?_ (.cons rfl ?_ (.cons rfl ?_ (.nil _)))))))))))))))
   all_goals intro L v w1 hd hn ⟨hS1, h0, h1, h2, h3, h4, h5, h6, h7, h8, h9, h10, h11, h12, h13⟩ K hK
   · go_wp2_with fail
     exact hK _ (.int .i64 p) _ (by simp only [Act.put, pA, pB, pC ]) ⟨hS1, fun _ => rfl, h1, h2, h3, h4, h5, h6, h7, h8, h9, h10, h11, h12, h13⟩
   · refine wp_load_blk 22 _ rfl _ rfl 64 22 _ (ba.zw hS1) _ Try.underlying22 Try.size22 ?_
     exact hK _ _ _ rfl ⟨hS1, h0, fun _ => rfl, h2, h3, h4, h5, h6, h7, h8, h9, h10, h11, h12, h13⟩
   · have e1 := h1 (zdq hd 1 rfl)
     go_wp2_with (go_at_call 28; refine (toPoly_any _ ha _).mono ?_; rintro e w1y ⟨rfl, hy⟩)
     exact hK _ (.agg (zb 64 (a))) _ (by simp only [Act.put, pA, pB, pC, e1]) ⟨hS1.trans (hy.mono hS1.size), h0, h1, fun _ => rfl, h3, h4, h5, h6, h7, h8, h9, h10, fun h => (h11 h).below hy, fun h => (h12 h).below hy, h13⟩
   · refine wp_load_blk 22 _ rfl _ rfl 64 22 _ (bx.zw hS1) _ Try.underlying22 Try.size22 ?_
     exact hK _ _ _ rfl ⟨hS1, h0, h1, h2, fun _ => rfl, h4, h5, h6, h7, h8, h9, h10, h11, h12, h13⟩
   · have e3 := h3 (zdq hd 3 rfl)
     go_wp2_with (go_at_call 28; refine (toPoly_any _ hx _).mono ?_; rintro e w1y ⟨rfl, hy⟩)
     exact hK _ (.agg (zb 64 (x))) _ (by simp only [Act.put, pA, pB, pC, e3]) ⟨hS1.trans (hy.mono hS1.size), h0, h1, h2, h3, fun _ => rfl, h5, h6, h7, h8, h9, h10, fun h => (h11 h).below hy, fun h => (h12 h).below hy, h13⟩
   · refine wp_load_blk 22 _ rfl _ rfl 64 22 _ (bm.zw hS1) _ Try.underlying22 Try.size22 ?_
     exact hK _ _ _ rfl ⟨hS1, h0, h1, h2, h3, h4, fun _ => rfl, h6, h7, h8, h9, h10, h11, h12, h13⟩
   · have e5 := h5 (zdq hd 5 rfl)
     go_wp2_with (go_at_call 28; refine (toPoly_any _ hm _).mono ?_; rintro e w1y ⟨rfl, hy⟩)
     exact hK _ (.agg (zb 64 (m))) _ (by simp only [Act.put, pA, pB, pC, e5]) ⟨hS1.trans (hy.mono hS1.size), h0, h1, h2, h3, h4, h5, fun _ => rfl, h7, h8, h9, h10, fun h => (h11 h).below hy, fun h => (h12 h).below hy, h13⟩
   · have e0 := h0 (zdq hd 0 rfl)
     have e2 := h2 (zdq hd 2 rfl)
     have e4 := h4 (zdq hd 4 rfl)
     have e6 := h6 (zdq hd 6 rfl)
     go_wp2_with (go_at_call 47; refine (spec_ActOnResidue_any p a x m ha hx hm _).mono ?_; rintro e w1y ⟨rfl, hy⟩)
     exact hK _ (.tuple #[(.agg (zb 64 ((aoV p a x m).1))), (.int .i64 ((aoV p a x m).2))]) _ (by simp only [Act.put, pA, pB, pC, e0, e2, e4, e6]) ⟨hS1.trans (hy.mono hS1.size), h0, h1, h2, h3, h4, h5, h6, fun _ => rfl, h8, h9, h10, fun h => (h11 h).below hy, fun h => (h12 h).below hy, h13⟩
   · have e7 := h7 (zdq hd 7 rfl)
     go_wp2_with fail
     exact hK _ (.tuple #[(.agg (zb 64 ((aoV p a x m).1))), (.int .i64 ((aoV p a x m).2))]) _ (by simp only [Act.put, pA, pB, pC, e7]) ⟨hS1, h0, h1, h2, h3, h4, h5, h6, h7, fun _ => rfl, h9, h10, h11, h12, h13⟩
   · have e8 := h8 (zdq hd 8 rfl)
     go_wp2_with fail
     exact hK _ (.agg (zb 64 ((aoV p a x m).1))) _ (by simp only [Act.put, pA, pB, pC, e8]) ⟨hS1, h0, h1, h2, h3, h4, h5, h6, h7, h8, fun _ => rfl, h10, h11, h12, h13⟩
   · have e8 := h8 (zdq hd 8 rfl)
     go_wp2_with fail
     exact hK _ (.int .i64 ((aoV p a x m).2)) _ (by simp only [Act.put, pA, pB, pC, e8]) ⟨hS1, h0, h1, h2, h3, h4, h5, h6, h7, h8, h9, fun _ => rfl, h11, h12, h13⟩
   · go_wp2_with fail
     rw [← z64]
     exact hK _ (.pointer (some ⟨w1.heap.size, 0, none⟩)) _ (by simp only [Act.put, pA, pB, pC ]) ⟨hS1.alloc hS1.size _, h0, h1, h2, h3, h4, h5, h6, h7, h8, h9, h10, fun _ => (PF.new w1 64 24 _ hS1.size).af, fun h => absurd rfl (hn 12 _ rfl h ⟨11, .data⟩ (by simp) rfl), h13⟩
   · have e9 := h9 (zdq hd 9 rfl)
     obtain ⟨gz, b, ea, hN, hk⟩ := (h11 (zdq hd 11 rfl)).out
     refine zsb 24 _ _ rfl b 64 ((aoV p a x m).1) ea e9 24 gz hk Try.size24 ?_
     exact hK _ undef _ rfl ⟨zr hS1 hN _, h0, h1, h2, h3, h4, h5, h6, h7, h8, h9, h10, fun h => (h11 h).row hk, fun _ => by rw [show updV v 12 undef 11 = v 11 from rfl, ea]; exact PF.row hk hN _, h13⟩
   have e10 := h10 (zdq hd 10 rfl)
   go_wp2_with fail
   exact hK _ (.int .i64 ((aoV p a x m).2)) _ (by simp only [Act.put, pA, pB, pC, e10]) ⟨hS1, h0, h1, h2, h3, h4, h5, h6, h7, h8, h9, h10, h11, h12, fun _ => rfl⟩
 intro L v w1 hL ⟨hS1, h0, h1, h2, h3, h4, h5, h6, h7, h8, h9, h10, h11, h12, h13⟩
 have e0 := h0 (hL 0 (by decide))
 have e1 := h1 (hL 1 (by decide))
 have e2 := h2 (hL 2 (by decide))
 have e3 := h3 (hL 3 (by decide))
 have e4 := h4 (hL 4 (by decide))
 have e5 := h5 (hL 5 (by decide))
 have e6 := h6 (hL 6 (by decide))
 have e7 := h7 (hL 7 (by decide))
 have e8 := h8 (hL 8 (by decide))
 have e9 := h9 (hL 9 (by decide))
 have e10 := h10 (hL 10 (by decide))
 obtain ⟨b11, e11, hN11, hb11⟩ := (h12 (hL 12 (by decide))).out
 have e13 := h13 (hL 13 (by decide))
 clear hL h0 h1 h2 h3 h4 h5 h6 h7 h8 h9 h10 h11 h12 h13
 simp only [Exit.then, e0, e1, e2, e3, e4, e5, e6, e7, e8, e9, e10, e11, e13]
 clear e0 e1 e2 e3 e4 e5 e6 e7 e8 e9 e10 e11 e13
 go_upto_region 2 with (fail)
 replace ba := ba.zw hS1
 replace bx := bx.zw hS1
 replace bm := bm.zw hS1
 refine wp_region_steps Try.mixed (by kernel_rfl) (by kernel_rfl) (fun v => by (simp only [frL, Act.put, pA, pB, pC, Nat.reduceAdd, Nat.zero_add]; exact rfl))
  (fun L v w2 => Below w1.heap.size w1 w2 ∧ (L 0 = true → v 0 = (.int .i64 p)) ∧ (L 1 = true → v 1 = (.agg (zb 64 (a)))) ∧ (L 2 = true → v 2 = (.agg (zb 64 (a)))) ∧ (L 3 = true → v 3 = (.agg (zb 64 (x)))) ∧ (L 4 = true → v 4 = (.agg (zb 64 (x)))) ∧ (L 5 = true → v 5 = (.agg (zb 64 (m)))) ∧ (L 6 = true → v 6 = (.agg (zb 64 (m)))) ∧ (L 7 = true → v 7 = (.tuple #[(.agg (zb 64 ((aoV p a x m).1))), (.int .i64 ((aoV p a x m).2))])) ∧ (L 8 = true → v 8 = (.tuple #[(.agg (zb 64 ((aoV p a x m).1))), (.int .i64 ((aoV p a x m).2))])) ∧ (L 9 = true → v 9 = (.agg (zb 64 ((aoV p a x m).1)))) ∧ (L 10 = true → v 10 = (.int .i64 ((aoV p a x m).2))) ∧ (L 11 = true → AF (v 11) w2 w1.heap.size 64 24) ∧ (L 12 = true → PF (v 11) w2 w1.heap.size 64 24 ((aoV p a x m).1)) ∧ (L 13 = true → v 13 = (.int .i64 ((aoV p a x m).2)))) ?_ ?_ ?_
 · intro v
   exact ⟨(Below.refl _ _).drew, (fun h => by cases h), (fun h => by cases h), (fun h => by cases h), (fun h => by cases h), (fun h => by cases h), (fun h => by cases h), (fun h => by cases h), (fun h => by cases h), (fun h => by cases h), (fun h => by cases h), (fun h => by cases h), (fun h => by cases h), (fun h => by cases h), (fun h => by cases h)⟩
 · refine (.cons rfl ?_ (.cons rfl ?_ (.cons rfl ?_ (.cons rfl ?_ (.cons rfl ?_ (.cons rfl ?_ (.cons rfl ?_ (.cons rfl ?_ (.cons rfl ?_ (.cons rfl ?_ (.cons rfl ?_ (.cons rfl ?_ (.cons rfl ?_ (.cons rfl ?_ (.nil _)))))))))))))))
   all_goals intro L v w2 hd hn ⟨hS2, h0, h1, h2, h3, h4, h5, h6, h7, h8, h9, h10, h11, h12, h13⟩ K hK
   · go_wp2_with fail
     exact hK _ (.int .i64 p) _ (by simp only [Act.put, pA, pB, pC ]) ⟨hS2, fun _ => rfl, h1, h2, h3, h4, h5, h6, h7, h8, h9, h10, h11, h12, h13⟩
   · refine wp_load_blk 22 _ rfl _ rfl 64 22 _ (ba.zw hS2) _ Try.underlying22 Try.size22 ?_
     exact hK _ _ _ rfl ⟨hS2, h0, fun _ => rfl, h2, h3, h4, h5, h6, h7, h8, h9, h10, h11, h12, h13⟩
   · have e1 := h1 (zdq hd 1 rfl)
     go_wp2_with (go_at_call 28; refine (toPoly_any _ ha _).mono ?_; rintro e w2y ⟨rfl, hy⟩)
     exact hK _ (.agg (zb 64 (a))) _ (by simp only [Act.put, pA, pB, pC, e1]) ⟨hS2.trans (hy.mono hS2.size), h0, h1, fun _ => rfl, h3, h4, h5, h6, h7, h8, h9, h10, fun h => (h11 h).below hy, fun h => (h12 h).below hy, h13⟩
   · refine wp_load_blk 22 _ rfl _ rfl 64 22 _ (bx.zw hS2) _ Try.underlying22 Try.size22 ?_
     exact hK _ _ _ rfl ⟨hS2, h0, h1, h2, fun _ => rfl, h4, h5, h6, h7, h8, h9, h10, h11, h12, h13⟩
   · have e3 := h3 (zdq hd 3 rfl)
     go_wp2_with (go_at_call 28; refine (toPoly_any _ hx _).mono ?_; rintro e w2y ⟨rfl, hy⟩)
     exact hK _ (.agg (zb 64 (x))) _ (by simp only [Act.put, pA, pB, pC, e3]) ⟨hS2.trans (hy.mono hS2.size), h0, h1, h2, h3, fun _ => rfl, h5, h6, h7, h8, h9, h10, fun h => (h11 h).below hy, fun h => (h12 h).below hy, h13⟩
   · refine wp_load_blk 22 _ rfl _ rfl 64 22 _ (bm.zw hS2) _ Try.underlying22 Try.size22 ?_
     exact hK _ _ _ rfl ⟨hS2, h0, h1, h2, h3, h4, fun _ => rfl, h6, h7, h8, h9, h10, h11, h12, h13⟩
   · have e5 := h5 (zdq hd 5 rfl)
     go_wp2_with (go_at_call 28; refine (toPoly_any _ hm _).mono ?_; rintro e w2y ⟨rfl, hy⟩)
     exact hK _ (.agg (zb 64 (m))) _ (by simp only [Act.put, pA, pB, pC, e5]) ⟨hS2.trans (hy.mono hS2.size), h0, h1, h2, h3, h4, h5, fun _ => rfl, h7, h8, h9, h10, fun h => (h11 h).below hy, fun h => (h12 h).below hy, h13⟩
   · have e0 := h0 (zdq hd 0 rfl)
     have e2 := h2 (zdq hd 2 rfl)
     have e4 := h4 (zdq hd 4 rfl)
     have e6 := h6 (zdq hd 6 rfl)
     go_wp2_with (go_at_call 48; refine (impl_ActOnResidue_any p a x m ha hx hm _).mono ?_; rintro e w2y ⟨rfl, hy⟩)
     exact hK _ (.tuple #[(.agg (zb 64 ((aoV p a x m).1))), (.int .i64 ((aoV p a x m).2))]) _ (by simp only [Act.put, pA, pB, pC, e0, e2, e4, e6]) ⟨hS2.trans (hy.mono hS2.size), h0, h1, h2, h3, h4, h5, h6, fun _ => rfl, h8, h9, h10, fun h => (h11 h).below hy, fun h => (h12 h).below hy, h13⟩
   · have e7 := h7 (zdq hd 7 rfl)
     go_wp2_with fail
     exact hK _ (.tuple #[(.agg (zb 64 ((aoV p a x m).1))), (.int .i64 ((aoV p a x m).2))]) _ (by simp only [Act.put, pA, pB, pC, e7]) ⟨hS2, h0, h1, h2, h3, h4, h5, h6, h7, fun _ => rfl, h9, h10, h11, h12, h13⟩
   · have e8 := h8 (zdq hd 8 rfl)
     go_wp2_with fail
     exact hK _ (.agg (zb 64 ((aoV p a x m).1))) _ (by simp only [Act.put, pA, pB, pC, e8]) ⟨hS2, h0, h1, h2, h3, h4, h5, h6, h7, h8, fun _ => rfl, h10, h11, h12, h13⟩
   · have e8 := h8 (zdq hd 8 rfl)
     go_wp2_with fail
     exact hK _ (.int .i64 ((aoV p a x m).2)) _ (by simp only [Act.put, pA, pB, pC, e8]) ⟨hS2, h0, h1, h2, h3, h4, h5, h6, h7, h8, h9, fun _ => rfl, h11, h12, h13⟩
   · go_wp2_with fail
     rw [← z64]
     exact hK _ (.pointer (some ⟨w2.heap.size, 0, none⟩)) _ (by simp only [Act.put, pA, pB, pC ]) ⟨hS2.alloc hS2.size _, h0, h1, h2, h3, h4, h5, h6, h7, h8, h9, h10, fun _ => (PF.new w2 64 24 _ hS2.size).af, fun h => absurd rfl (hn 12 _ rfl h ⟨11, .data⟩ (by simp) rfl), h13⟩
   · have e9 := h9 (zdq hd 9 rfl)
     obtain ⟨gz, b, ea, hN, hk⟩ := (h11 (zdq hd 11 rfl)).out
     refine zsb 24 _ _ rfl b 64 ((aoV p a x m).1) ea e9 24 gz hk Try.size24 ?_
     exact hK _ undef _ rfl ⟨zr hS2 hN _, h0, h1, h2, h3, h4, h5, h6, h7, h8, h9, h10, fun h => (h11 h).row hk, fun _ => by rw [show updV v 12 undef 11 = v 11 from rfl, ea]; exact PF.row hk hN _, h13⟩
   have e10 := h10 (zdq hd 10 rfl)
   go_wp2_with fail
   exact hK _ (.int .i64 ((aoV p a x m).2)) _ (by simp only [Act.put, pA, pB, pC, e10]) ⟨hS2, h0, h1, h2, h3, h4, h5, h6, h7, h8, h9, h10, h11, h12, fun _ => rfl⟩
 intro L v w2 hL ⟨hS2, h0, h1, h2, h3, h4, h5, h6, h7, h8, h9, h10, h11, h12, h13⟩
 have e0 := h0 (hL 0 (by decide))
 have e1 := h1 (hL 1 (by decide))
 have e2 := h2 (hL 2 (by decide))
 have e3 := h3 (hL 3 (by decide))
 have e4 := h4 (hL 4 (by decide))
 have e5 := h5 (hL 5 (by decide))
 have e6 := h6 (hL 6 (by decide))
 have e7 := h7 (hL 7 (by decide))
 have e8 := h8 (hL 8 (by decide))
 have e9 := h9 (hL 9 (by decide))
 have e10 := h10 (hL 10 (by decide))
 obtain ⟨q11, e11, hM11, hq11⟩ := (h12 (hL 12 (by decide))).out
 have e13 := h13 (hL 13 (by decide))
 clear hL h0 h1 h2 h3 h4 h5 h6 h7 h8 h9 h10 h11 h12 h13
 simp only [Exit.then, e0, e1, e2, e3, e4, e5, e6, e7, e8, e9, e10, e11, e13]
 clear e0 e1 e2 e3 e4 e5 e6 e7 e8 e9 e10 e11 e13
 replace hb11 := hb11.zw hS2
 have ha : Below w2.heap.size w2 w2 := Below.refl _ _
 have hne : (((aoV p a x m).2) != ((aoV p a x m).2)) = false := by simp
 go_wp2_with (first | refine zlb rfl 24 _ rfl _ rfl 64 24 _ (hq11.below (by assumption) hq11.lt) 5 Try.underlying24 Try.size24 ?_ | refine zlb rfl 24 _ rfl _ rfl 64 24 _ (hb11.below (by assumption) hb11.lt) 5 Try.underlying24 Try.size24 ?_ | (go_at_call 49; refine (acc (eqPoly_same _ _ (fun _ _ => rfl) _) (by assumption)).mono ?_; rintro e w3 ⟨rfl, h3, ha⟩))
 go_ret
 exact ⟨rfl, hb.trans ((hS1.trans ((hS2.trans (ha.mono hS2.size)).mono hS1.size)).mono hb.size)⟩
end Go.Proofs.Yteloknnooebabaa
