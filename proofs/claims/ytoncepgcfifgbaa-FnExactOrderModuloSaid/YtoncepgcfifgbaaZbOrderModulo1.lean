/-
  What the rows of this claim rest on: arrays of bytes, walks of the functions, plain mathematics.
-/
import Derived.Test.YtoncepgcfifgbaaZb7
import Derived.WalkKit
import Derived.WalkSpells
import Derived.WalkLawsBesides
import Derived.Lib.Hide
import Derived.Laws.Rows
import Derived.Laws.CopyOwn
import Derived.Deep.QuietTactic
import Derived.Deep.WholeRow
import Derived.Deep.Draws
import Derived.Deep.MidRow
import Derived.Deep.CutRange
import Derived.Deep.DeepCutAuto
import Derived.Deep.RegionHeld3
import Derived.BigQuiet
import Derived.BigRegion
import Derived.Test.YtoncepgcfifgbaaRows
import Derived.Great.BuildSlice
import Derived.Laws.Tables
import Derived.Laws.StructEq
import Derived.ScopeJumps
import Derived.Deep.CutBlock
import Derived.OwnWalk
import Derived.RangeFuncNested
import Derived.RangeFuncBound
import Derived.RangeFuncCalls
import Derived.RangeFuncLeaves
import Derived.Shelf.Abstract
import Derived.Shelf.RegionOpen
import Derived.OwnWalkIn
import Derived.TacticsInMore
import Derived.LoopNIn
import Derived.LoopIn
import Derived.Maps.OwnOps
import Derived.DeepKeys4
import Derived.Carry
import Derived.Test.YtoncepgcfifgbaaProg
section
namespace Go.Proofs.Ytoncepgcfifgbaa
open Go.RowKit
set_option linter.unusedVariables false
set_option linter.unusedSimpArgs false
attribute [local irreducible] deg invN dS qS stp stpr quoP resP oneP bzD bzU bzW
set_option maxRecDepth 100000 in
set_option maxHeartbeats 800000 in
theorem checkModulus_any (p : Int) (m : Nat → Nat) (hmb : byte m) (fs : List (Nat → Nat)) (hfs : ∀ f ∈ fs, byte f) (bb : Nat) (w : World) (hs : PolS w bb fs) (hl : fs.length ≤ 8) :
 Calls Try.prog 118 #[.int .i64 p, .agg (zb 64 m), .slice (some ⟨bb, 0, none⟩) fs.length fs.length] w fun e w' => e = .returned (.int .i64 (modV p m fs)) ∧ Below w.heap.size w w' := by
 obtain ⟨fb1, fb2⟩ := zdb m
 have hslt := hs.lt
 go_enter Try.func118, Try.ntmps118
 go_upto_region 1 with (fail)
 obtain ⟨W1, hwo⟩ : ∃ v : World, v = (w.alloc (.cells (zb 64 (m)) 23)) := ⟨_, rfl⟩
 have B0 : Blk W1 (w.heap.size) 64 23 (m) := by subst hwo; have := (Blk.new w 64 23 (m)); simpa using this
 have hb : Below w.heap.size w W1 := by subst hwo; exact ((Below.refl _ _).alloc (Nat.le_refl _) _)
 rw [← hwo]
 clear hwo
 rcases codeL_two p [m] with hc1 | hc1
 · rcases codeL_two p fs with hc2 | hc2
   · cases hm5 : monUp 5 m with
     | false =>
      have HV := Lib.hid (modV_3 hc1 hc2 hm5)
      go_upto_region 3 with (first | (refine zla (.tmp 4) B0 Try.underlying23 Try.size23 ?_) | (refine wpList_build_polys rfl 33 _ [m] rfl 23 rfl Try.underlying33 Try.elem23 (by simp) (by simp) rfl ?_; intro wa hwa hps hba; clear hwa) | (go_at_call 86; refine (checkPolys_any p [m] (by simp [hmb]) _ _ hps (by simp)).mono ?_; rintro e W2 ⟨rfl, hbb⟩; replace B0 := B0.below (hba.trans (hbb.mono hba.size)) B0.lt; replace hb := hb.trans ((hba.trans (hbb.mono hba.size)).mono hb.size); clear hps; rw [hc1]) | (go_at_call 86; refine (checkPolys_any p fs hfs bb _ (hs.below hb hslt) hl).mono ?_; rintro e W3 ⟨rfl, hb3⟩; replace B0 := B0.zw hb3; replace hb := hb.trans (hb3.mono hb.size); rw [hc2]))
      clear hba hbb hb3 hs hslt hfs
      go_upto_region 4 with (first | (refine zla (.tmp 4) B0 Try.underlying23 Try.size23 ?_) | (go_at_call 162; refine (isModulus_any m hmb _).mono ?_; rintro e W2 ⟨rfl, hW2⟩; replace B0 := B0.zw hW2; replace hb := (hb).trans (hW2.mono (hb).size); rw [hm5]))
      go_wp2_with fail
      go_ret
      exact ⟨ret_int HV.out.symm, hb⟩
     | true =>
      have HV := Lib.hid (modV_0 hc1 hc2 hm5)
      go_upto_region 3 with (first | (refine zla (.tmp 4) B0 Try.underlying23 Try.size23 ?_) | (refine wpList_build_polys rfl 33 _ [m] rfl 23 rfl Try.underlying33 Try.elem23 (by simp) (by simp) rfl ?_; intro wa hwa hps hba; clear hwa) | (go_at_call 86; refine (checkPolys_any p [m] (by simp [hmb]) _ _ hps (by simp)).mono ?_; rintro e W2 ⟨rfl, hbb⟩; replace B0 := B0.below (hba.trans (hbb.mono hba.size)) B0.lt; replace hb := hb.trans ((hba.trans (hbb.mono hba.size)).mono hb.size); clear hps; rw [hc1]) | (go_at_call 86; refine (checkPolys_any p fs hfs bb _ (hs.below hb hslt) hl).mono ?_; rintro e W3 ⟨rfl, hb3⟩; replace B0 := B0.zw hb3; replace hb := hb.trans (hb3.mono hb.size); rw [hc2]))
      clear hba hbb hb3 hs hslt hfs
      go_upto_region 5 with (first | (refine zla (.tmp 4) B0 Try.underlying23 Try.size23 ?_) | (go_at_call 162; refine (isModulus_any m hmb _).mono ?_; rintro e W2 ⟨rfl, hW2⟩; replace B0 := B0.zw hW2; replace hb := (hb).trans (hW2.mono (hb).size); rw [hm5]))
      go_wp2_with fail
      go_ret
      exact ⟨ret_int HV.out.symm, hb⟩
   · have HV := Lib.hid (modV_2 (m := m) hc2)
     go_upto_region 2 with (first | (refine zla (.tmp 4) B0 Try.underlying23 Try.size23 ?_) | (refine wpList_build_polys rfl 33 _ [m] rfl 23 rfl Try.underlying33 Try.elem23 (by simp) (by simp) rfl ?_; intro wa hwa hps hba; clear hwa) | (go_at_call 86; refine (checkPolys_any p [m] (by simp [hmb]) _ _ hps (by simp)).mono ?_; rintro e W2 ⟨rfl, hbb⟩; replace B0 := B0.below (hba.trans (hbb.mono hba.size)) B0.lt; replace hb := hb.trans ((hba.trans (hbb.mono hba.size)).mono hb.size); clear hps; rw [hc1]) | (go_at_call 86; refine (checkPolys_any p fs hfs bb _ (hs.below hb hslt) hl).mono ?_; rintro e W3 ⟨rfl, hb3⟩; replace B0 := B0.zw hb3; replace hb := hb.trans (hb3.mono hb.size); rw [hc2]))
     go_wp2_with fail
     go_ret
     exact ⟨ret_int HV.out.symm, hb⟩
 · have HV := Lib.hid (modV_1 (fs := fs) hc1)
   go_upto_region 2 with (first | (refine zla (.tmp 4) B0 Try.underlying23 Try.size23 ?_) | (refine wpList_build_polys rfl 33 _ [m] rfl 23 rfl Try.underlying33 Try.elem23 (by simp) (by simp) rfl ?_; intro wa hwa hps hba; clear hwa) | (go_at_call 86; refine (checkPolys_any p [m] (by simp [hmb]) _ _ hps (by simp)).mono ?_; rintro e W2 ⟨rfl, hbb⟩; replace B0 := B0.below (hba.trans (hbb.mono hba.size)) B0.lt; replace hb := hb.trans ((hba.trans (hbb.mono hba.size)).mono hb.size); clear hps; rw [hc1]))
   go_wp2_with fail
   go_ret
   exact ⟨ret_int HV.out.symm, hb⟩
set_option maxRecDepth 100000 in
set_option maxHeartbeats 800000 in
theorem l02Modulus_any (p : Int) (m : Nat → Nat) (hmb : byte m) (fs : List (Nat → Nat)) (hfs : ∀ f ∈ fs, byte f) (bb : Nat) (w : World) (hs : PolS w bb fs) (hl : fs.length ≤ 8) :
 Calls Try.prog 115 #[.int .i64 p, .agg (zb 64 m), .slice (some ⟨bb, 0, none⟩) fs.length fs.length] w fun e w' => e = .returned (.int .i64 (modV p m fs)) ∧ Below w.heap.size w w' := by
 obtain ⟨fb1, fb2⟩ := zdb m
 have hslt := hs.lt
 go_enter Try.func115, Try.ntmps115
 go_upto_region 1 with (fail)
 obtain ⟨W1, hwo⟩ : ∃ v : World, v = (w.alloc (.cells (zb 64 (m)) 23)) := ⟨_, rfl⟩
 have B0 : Blk W1 (w.heap.size) 64 23 (m) := by subst hwo; have := (Blk.new w 64 23 (m)); simpa using this
 have hb : Below w.heap.size w W1 := by subst hwo; exact ((Below.refl _ _).alloc (Nat.le_refl _) _)
 rw [← hwo]
 clear hwo
 rcases codeL_two p [m] with hc1 | hc1
 · rcases codeL_two p fs with hc2 | hc2
   · cases hm5 : monUp 5 m with
     | false =>
      have HV := Lib.hid (modV_3 hc1 hc2 hm5)
      go_upto_region 3 with (first | (refine zla (.tmp 4) B0 Try.underlying23 Try.size23 ?_) | (refine wpList_build_polys rfl 33 _ [m] rfl 23 rfl Try.underlying33 Try.elem23 (by simp) (by simp) rfl ?_; intro wa hwa hps hba; clear hwa) | (go_at_call 85; refine (l01Code_any p [m] (by simp [hmb]) _ _ hps (by simp)).mono ?_; rintro e W2 ⟨rfl, hbb⟩; replace B0 := B0.below (hba.trans (hbb.mono hba.size)) B0.lt; replace hb := hb.trans ((hba.trans (hbb.mono hba.size)).mono hb.size); clear hps; rw [hc1]) | (go_at_call 85; refine (l01Code_any p fs hfs bb _ (hs.below hb hslt) hl).mono ?_; rintro e W3 ⟨rfl, hb3⟩; replace B0 := B0.zw hb3; replace hb := hb.trans (hb3.mono hb.size); rw [hc2]))
      clear hba hbb hb3 hs hslt hfs
      cases hmo : monB m with
      | false =>
       go_upto_region 4 with (first | (refine zla (.tmp 4) B0 Try.underlying23 Try.size23 ?_) | (go_at_call 104; refine (l01Monic_any m hmb _).mono ?_; rintro e W2 ⟨rfl, hW2⟩; replace B0 := B0.zw hW2; replace hb := (hb).trans (hW2.mono (hb).size); rw [hmo]))
       go_wp2_with fail
       go_ret
       exact ⟨ret_int HV.out.symm, hb⟩
      | true =>
       have hnr : ¬ (1 ≤ deg m ∧ deg m ≤ 5) := by intro h; rw [monUp_B, hmo] at hm5; simp at hm5; omega
       go_upto_region 4 with (first | (refine zla (.tmp 4) B0 Try.underlying23 Try.size23 ?_) | (go_at_call 104; refine (l01Monic_any m hmb _).mono ?_; rintro e W2 ⟨rfl, hW2⟩; replace B0 := B0.zw hW2; replace hb := (hb).trans (hW2.mono (hb).size); rw [hmo]) | (refine zlg rfl 23 (.tmp 4) rfl _ rfl 64 23 _ (B0) _ Try.underlying23 rfl Try.size23 ?_) | (go_at_call 88; refine (l01Deg_any m _).mono ?_; rintro e W3 ⟨rfl, hW3⟩; replace B0 := B0.zw hW3; replace hb := (hb).trans (hW3.mono (hb).size)) | (go_at_call 89; refine (l01In_no (deg m) 1 5 hnr _).mono ?_; rintro e wS ⟨rfl, rfl⟩))
       go_wp2_with fail
       go_ret
       exact ⟨ret_int HV.out.symm, hb⟩
     | true =>
      have HV := Lib.hid (modV_0 hc1 hc2 hm5)
      go_upto_region 3 with (first | (refine zla (.tmp 4) B0 Try.underlying23 Try.size23 ?_) | (refine wpList_build_polys rfl 33 _ [m] rfl 23 rfl Try.underlying33 Try.elem23 (by simp) (by simp) rfl ?_; intro wa hwa hps hba; clear hwa) | (go_at_call 85; refine (l01Code_any p [m] (by simp [hmb]) _ _ hps (by simp)).mono ?_; rintro e W2 ⟨rfl, hbb⟩; replace B0 := B0.below (hba.trans (hbb.mono hba.size)) B0.lt; replace hb := hb.trans ((hba.trans (hbb.mono hba.size)).mono hb.size); clear hps; rw [hc1]) | (go_at_call 85; refine (l01Code_any p fs hfs bb _ (hs.below hb hslt) hl).mono ?_; rintro e W3 ⟨rfl, hb3⟩; replace B0 := B0.zw hb3; replace hb := hb.trans (hb3.mono hb.size); rw [hc2]))
      clear hba hbb hb3 hs hslt hfs
      have hmo : monB m = true := by cases h : monB m with | true => rfl | false => rw [monUp_B, h] at hm5; simp at hm5
      have hyr : 1 ≤ deg m ∧ deg m ≤ 5 := by rw [monUp_B, hmo] at hm5; simpa using hm5
      go_upto_region 5 with (first | (refine zla (.tmp 4) B0 Try.underlying23 Try.size23 ?_) | (go_at_call 104; refine (l01Monic_any m hmb _).mono ?_; rintro e W2 ⟨rfl, hW2⟩; replace B0 := B0.zw hW2; replace hb := (hb).trans (hW2.mono (hb).size); rw [hmo]) | (refine zlg rfl 23 (.tmp 4) rfl _ rfl 64 23 _ (B0) _ Try.underlying23 rfl Try.size23 ?_) | (go_at_call 88; refine (l01Deg_any m _).mono ?_; rintro e W3 ⟨rfl, hW3⟩; replace B0 := B0.zw hW3; replace hb := (hb).trans (hW3.mono (hb).size)) | (go_at_call 89; refine (l01In_yes (deg m) 1 5 hyr _).mono ?_; rintro e wS ⟨rfl, rfl⟩))
      go_wp2_with fail
      go_ret
      exact ⟨ret_int HV.out.symm, hb⟩
   · have HV := Lib.hid (modV_2 (m := m) hc2)
     go_upto_region 2 with (first | (refine zla (.tmp 4) B0 Try.underlying23 Try.size23 ?_) | (refine wpList_build_polys rfl 33 _ [m] rfl 23 rfl Try.underlying33 Try.elem23 (by simp) (by simp) rfl ?_; intro wa hwa hps hba; clear hwa) | (go_at_call 85; refine (l01Code_any p [m] (by simp [hmb]) _ _ hps (by simp)).mono ?_; rintro e W2 ⟨rfl, hbb⟩; replace B0 := B0.below (hba.trans (hbb.mono hba.size)) B0.lt; replace hb := hb.trans ((hba.trans (hbb.mono hba.size)).mono hb.size); clear hps; rw [hc1]) | (go_at_call 85; refine (l01Code_any p fs hfs bb _ (hs.below hb hslt) hl).mono ?_; rintro e W3 ⟨rfl, hb3⟩; replace B0 := B0.zw hb3; replace hb := hb.trans (hb3.mono hb.size); rw [hc2]))
     go_wp2_with fail
     go_ret
     exact ⟨ret_int HV.out.symm, hb⟩
 · have HV := Lib.hid (modV_1 (fs := fs) hc1)
   go_upto_region 2 with (first | (refine zla (.tmp 4) B0 Try.underlying23 Try.size23 ?_) | (refine wpList_build_polys rfl 33 _ [m] rfl 23 rfl Try.underlying33 Try.elem23 (by simp) (by simp) rfl ?_; intro wa hwa hps hba; clear hwa) | (go_at_call 85; refine (l01Code_any p [m] (by simp [hmb]) _ _ hps (by simp)).mono ?_; rintro e W2 ⟨rfl, hbb⟩; replace B0 := B0.below (hba.trans (hbb.mono hba.size)) B0.lt; replace hb := hb.trans ((hba.trans (hbb.mono hba.size)).mono hb.size); clear hps; rw [hc1]))
   go_wp2_with fail
   go_ret
   exact ⟨ret_int HV.out.symm, hb⟩
end Go.Proofs.Ytoncepgcfifgbaa
end
section
namespace Go.Proofs.Ytoncepgcfifgbaa
open Go.RowKit
set_option linter.unusedVariables false
set_option linter.unusedSimpArgs false
attribute [local irreducible] deg invN dS qS stp stpr quoP resP oneP bzD bzU bzW
set_option maxRecDepth 100000 in
set_option maxHeartbeats 400000 in
theorem l02Unit_any (p : Nat) (f m : Nat → Nat) (w : World) (hpr : p = 2 ∨ p = 3 ∨ p = 5 ∨ p = 7) (lf : ∀ k, k < 64 → f k < p) (lm : ∀ k, k < 64 → m k < p) (h0 : 0 ≤ deg m) :
 Calls Try.prog 116 #[.int .i64 (p : Int), .agg (zb 64 f), .agg (zb 64 m)] w fun e w' => e = .returned (.bool (eqN 64 (bzD p f m) oneP)) ∧ Below w.heap.size w w' := by
 go_enter Try.func116, Try.ntmps116
 go_upto_region 1 with (fail)
 obtain ⟨W1, hwo⟩ : ∃ v : World, v = ((w.alloc (.cells (zb 64 (f)) 23)).alloc (.cells (zb 64 (m)) 23)) := ⟨_, rfl⟩
 have B0 : Blk W1 (w.heap.size) 64 23 (f) := by subst hwo; have := ((Blk.new w 64 23 (f)).alloc (.cells (zb 64 (m)) 23)); simpa using this
 have B1 : Blk W1 (w.heap.size + 1) 64 23 (m) := by subst hwo; have := (Blk.new (w.alloc (.cells (zb 64 (f)) 23)) 64 23 (m)); simpa using this
 have hb : Below w.heap.size w W1 := by subst hwo; exact (((Below.refl _ _).alloc (Nat.le_refl _) _).alloc (by simp) _)
 rw [← hwo]
 clear hwo
 have hgd := Try.noGuard23
 have heq := fun W => zeb (P := Try.prog) W 9998 23 5 64 (bzD p f m) oneP Try.underlying23 Try.underlying5 Try.size5
 go_wp2_with (first | (refine zla (.tmp 4) B0 Try.underlying23 Try.size23 ?_) | (refine zla (.tmp 5) B1 Try.underlying23 Try.size23 ?_) | (go_at_call 152; refine (l01Gcd_any p f m _ hpr lf lm (fun h => absurd h.2 (by omega))).mono ?_; rintro e W2 ⟨rfl, hW2⟩; replace B0 := B0.zw hW2; replace B1 := B1.zw hW2; replace hb := (hb).trans (hW2.mono (hb).size)) | (go_at_call 90; refine (l01One_any _).mono ?_; rintro e W3 ⟨rfl, hW3⟩; replace B0 := B0.zw hW3; replace B1 := B1.zw hW3; replace hb := (hb).trans (hW3.mono (hb).size)))
 go_ret
 exact ⟨rfl, hb⟩
end Go.Proofs.Ytoncepgcfifgbaa
end
section
namespace Go.Proofs.Ytoncepgcfifgbaa
open Go Go.RowKit
set_option linter.unusedVariables false
set_option linter.unusedSimpArgs false
attribute [local irreducible] deg facRows run pmP euG bzD
attribute [local irreducible] odI odO euN tsT
set_option maxRecDepth 100000 in
set_option maxHeartbeats 3200000 in
theorem isUnit_any (p : Nat) (f m : Nat → Nat) (w : World) (hpr : p = 2 ∨ p = 3 ∨ p = 5 ∨ p = 7) (lf : ∀ k, k < 64 → f k < p) (lm : ∀ k, k < 64 → m k < p) (h0 : 0 ≤ deg m) :
 Calls Try.prog 119 #[.int .i64 (p : Int), .agg (zb 64 f), .agg (zb 64 m)] w fun e w' => e = .returned (.bool (eqN 64 (bzD p f m) oneP)) ∧ Below w.heap.size w w' := by
 have HB := Lib.hid (fun W => bezout_any p f m W hpr lf lm (.inr h0))
 go_enter Try.func119, Try.ntmps119
 go_upto_region 1 with (fail)
 obtain ⟨W1, hwo⟩ : ∃ v : World, v = ((w.alloc (.cells (zb 64 (f)) 23)).alloc (.cells (zb 64 (m)) 23)) := ⟨_, rfl⟩
 have B0 : Blk W1 (w.heap.size) 64 23 (f) := by subst hwo; have := ((Blk.new w 64 23 (f)).alloc (.cells (zb 64 (m)) 23)); simpa using this
 have B1 : Blk W1 (w.heap.size + 1) 64 23 (m) := by subst hwo; have := (Blk.new (w.alloc (.cells (zb 64 (f)) 23)) 64 23 (m)); simpa using this
 have hb : Below w.heap.size w W1 := by subst hwo; exact (((Below.refl _ _).alloc (Nat.le_refl _) _).alloc (by simp) _)
 rw [← hwo]
 clear hwo
 have hgd := Try.noGuard23
 have heq := fun W => zeb (P := Try.prog) W 9998 23 5 64 (bzD p f m) oneP Try.underlying23 Try.underlying5 Try.size5
 simp only [one64] at heq
 have lt_B0 := B0.lt
 have lt_B1 := B1.lt
 go_upto_region 2 with (first | rw [← z64] | (refine zla (.tmp 4) B0 Try.underlying23 Try.size23 ?_) | (refine zla (.tmp 5) B1 Try.underlying23 Try.size23 ?_) | (go_at_call 157; refine (HB.out _).mono ?_; rintro e W2 ⟨rfl, hW2⟩; replace B0 := B0.zw hW2; replace B1 := B1.zw hW2; replace hb := (hb).trans (hW2.mono (hb).size)) | (refine wpList_store_blk rfl 23 (.tmp 7) (.tmp 15) rfl _ 64 (bzD p f m) rfl rfl 23 _ ((((Blk.new W2 64 23 (fun _ => 0)).alloc (.cells (zb 64 fun _ => 0) 23)).alloc (.cells (zb 64 fun _ => 0) 23))) Try.size23 ?_; try simp only [Act.put]) | (refine wpList_store_blk rfl 23 (.tmp 8) (.tmp 16) rfl _ 64 (bzU p f m) rfl rfl 23 _ ((((show Blk ((W2.alloc (.cells (zb 64 fun _ => 0) 23)).alloc (.cells (zb 64 fun _ => 0) 23)) (W2.heap.size + 1) 64 23 (fun _ => 0) by have := Blk.new (W2.alloc (.cells (zb 64 fun _ => 0) 23)) 64 23 (fun _ => 0); simpa using this).alloc (.cells (zb 64 fun _ => 0) 23)).rowOther (by omega))) Try.size23 ?_; try simp only [Act.put]) | (refine wpList_store_blk rfl 23 (.tmp 9) (.tmp 17) rfl _ 64 (bzW p f m) rfl rfl 23 _ ((((show Blk (((W2.alloc (.cells (zb 64 fun _ => 0) 23)).alloc (.cells (zb 64 fun _ => 0) 23)).alloc (.cells (zb 64 fun _ => 0) 23)) (W2.heap.size + 1 + 1) 64 23 (fun _ => 0) by have := Blk.new ((W2.alloc (.cells (zb 64 fun _ => 0) 23)).alloc (.cells (zb 64 fun _ => 0) 23)) 64 23 (fun _ => 0); simpa using this).rowOther (by omega)).rowOther (by omega))) Try.size23 ?_; try simp only [Act.put]))
 have lt_B0 := B0.lt
 have lt_B1 := B1.lt
 have lhb := hb.size
 obtain ⟨W3, hwo, hzQ⟩ : ∃ v : World, v = ((((((W2.alloc (.cells (zb 64 fun _ => 0) 23)).alloc (.cells (zb 64 fun _ => 0) 23)).alloc (.cells (zb 64 fun _ => 0) 23)).setRow (W2.heap.size) (zb 64 (bzD p f m))).setRow (W2.heap.size + 1) (zb 64 (bzU p f m))).setRow (W2.heap.size + 1 + 1) (zb 64 (bzW p f m))) ∧ Blk v (w.heap.size) 64 23 (f) ∧ Blk v (w.heap.size + 1) 64 23 (m) ∧ Blk v (W2.heap.size) 64 23 (bzD p f m) ∧ Blk v (W2.heap.size + 1) 64 23 (bzU p f m) ∧ Blk v (W2.heap.size + 1 + 1) 64 23 (bzW p f m) ∧ Below w.heap.size w v := ⟨_, rfl, ((((((B0.alloc (.cells (zb 64 fun _ => 0) 23)).alloc (.cells (zb 64 fun _ => 0) 23)).alloc (.cells (zb 64 fun _ => 0) 23)).rowOther (by omega)).rowOther (by omega)).rowOther (by omega)), ((((((B1.alloc (.cells (zb 64 fun _ => 0) 23)).alloc (.cells (zb 64 fun _ => 0) 23)).alloc (.cells (zb 64 fun _ => 0) 23)).rowOther (by omega)).rowOther (by omega)).rowOther (by omega)), ((((((Blk.new W2 64 23 (fun _ => 0)).alloc (.cells (zb 64 fun _ => 0) 23)).alloc (.cells (zb 64 fun _ => 0) 23)).row (bzD p f m)).rowOther (by omega)).rowOther (by omega)), (((((show Blk ((W2.alloc (.cells (zb 64 fun _ => 0) 23)).alloc (.cells (zb 64 fun _ => 0) 23)) (W2.heap.size + 1) 64 23 (fun _ => 0) by have := Blk.new (W2.alloc (.cells (zb 64 fun _ => 0) 23)) 64 23 (fun _ => 0); simpa using this).alloc (.cells (zb 64 fun _ => 0) 23)).rowOther (by omega)).row (bzU p f m)).rowOther (by omega)), ((((show Blk (((W2.alloc (.cells (zb 64 fun _ => 0) 23)).alloc (.cells (zb 64 fun _ => 0) 23)).alloc (.cells (zb 64 fun _ => 0) 23)) (W2.heap.size + 1 + 1) 64 23 (fun _ => 0) by have := Blk.new ((W2.alloc (.cells (zb 64 fun _ => 0) 23)).alloc (.cells (zb 64 fun _ => 0) 23)) 64 23 (fun _ => 0); simpa using this).rowOther (by omega)).rowOther (by omega)).row (bzW p f m)), (zr (zr (zr (((hb.alloc (by have := hb.size; simp; omega) (.cells (zb 64 fun _ => 0) 23)).alloc (by have := hb.size; simp; omega) (.cells (zb 64 fun _ => 0) 23)).alloc (by have := hb.size; simp; omega) (.cells (zb 64 fun _ => 0) 23)) (by omega) _) (by omega) _) (by omega) _)⟩
 rw [← hwo]
 clear hwo B0 B1 hb
 obtain ⟨B0, B1, B2, B3, B4, hb⟩ := hzQ
 obtain ⟨N1, hNN⟩ : ∃ n : Nat, n = W2.heap.size := ⟨_, rfl⟩
 rw [← hNN] at lt_B0 lt_B1 lhb B2 B3 B4 ⊢
 clear hNN
 have zN1_0 := lt_B0
 have zN1_1 := lt_B1
 have zN1 := lhb
 clear lt_B0 lt_B1 lhb
 try simp only [Act.put, pA, pB, pC]
 go_wp2_with (first | (refine zla (.tmp 7) B2 Try.underlying23 Try.size23 ?_))
 go_ret
 exact ⟨rfl, hb⟩
/-- both answers -/
def orV (p : Int) (f m : Nat → Nat) : Int × Int := if modV p m [f] = 0 then (if eqN 64 (bzD p.toNat f m) oneP = true then ((odN p.toNat f m : Nat), 0) else (0, 4)) else (0, modV p m [f])
theorem orV_code {p c : Int} {f m : Nat → Nat} (h : modV p m [f] = c) (h2 : c ≠ 0) : orV p f m = (0, c) := by unfold orV; rw [h, if_neg h2]
theorem orV_no {n : Nat} {f m : Nat → Nat} (h : modV (n : Int) m [f] = 0) (h2 : eqN 64 (bzD n f m) oneP = false) : orV (n : Int) f m = (0, 4) := by
 unfold orV; rw [if_pos h, Int.toNat_natCast, if_neg (by rw [h2]; simp)]
theorem orV_ok {n : Nat} {f m : Nat → Nat} (h : modV (n : Int) m [f] = 0) (h2 : eqN 64 (bzD n f m) oneP = true) : orV (n : Int) f m = (((odN n f m : Nat) : Int), 0) := by
 unfold orV; rw [if_pos h, Int.toNat_natCast, if_pos h2]
set_option maxRecDepth 100000 in
set_option maxHeartbeats 3200000 in
theorem spec_OrderModulo_any (p : Int) (f m : Nat → Nat) (hf : byte f) (hm : byte m) (w : World) :
 Calls Try.prog 51 #[.int .i64 p, .agg (zb 64 f), .agg (zb 64 m)] w fun e w' => e = .returned (.tuple #[.int .i64 (orV p f m).1, .int .i64 (orV p f m).2]) ∧ Below w.heap.size w w' := by
 go_enter Try.func51, Try.ntmps51
 go_upto_region 1 with (fail)
 obtain ⟨W1, hwo⟩ : ∃ v : World, v = ((w.alloc (.cells (zb 64 (f)) 23)).alloc (.cells (zb 64 (m)) 23)) := ⟨_, rfl⟩
 have B0 : Blk W1 (w.heap.size) 64 23 (f) := by subst hwo; have := ((Blk.new w 64 23 (f)).alloc (.cells (zb 64 (m)) 23)); simpa using this
 have B1 : Blk W1 (w.heap.size + 1) 64 23 (m) := by subst hwo; have := (Blk.new (w.alloc (.cells (zb 64 (f)) 23)) 64 23 (m)); simpa using this
 have hb : Below w.heap.size w W1 := by subst hwo; exact (((Below.refl _ _).alloc (Nat.le_refl _) _).alloc (by simp) _)
 rw [← hwo]
 clear hwo
 go_upto_region 2 with (first | (refine zla (.tmp 5) B1 Try.underlying23 Try.size23 ?_) | (refine zla (.tmp 4) B0 Try.underlying23 Try.size23 ?_) | (refine wpList_build_polys rfl 33 _ [f] rfl 23 rfl Try.underlying33 Try.elem23 (by simp) (by simp) rfl ?_; intro wa hwa hps hba; clear hwa) | (go_at_call 115; refine (l02Modulus_any p m hm [f] (by simp [hf]) _ _ hps (by simp)).mono ?_; rintro e W2 ⟨rfl, hbb⟩))
 have hBB : Below W1.heap.size W1 W2 := hba.trans (hbb.mono hba.size)
 replace B0 := B0.zw hBB
 replace B1 := B1.zw hBB
 replace hb := hb.trans (hBB.mono hb.size)
 clear hBB hba hbb hps
 rcases modV_cases (p := p) (m := m) (fs := [f]) with ⟨c, hc, hc0, hc12⟩ | ⟨hc, hcm, hcf, hm5⟩
 · have HV := Lib.hid (orV_code hc hc0)
   rw [hc]
   clear hc
   have hb1 : ((c : Int) != 0) = true := by simp [hc0]
   go_wp2_with fail
   go_ret2
   exact ⟨by rw [HV.out]; rfl, hb⟩
 · obtain ⟨n, hn, n2, n7⟩ := okP_nat (codeL_zero hcf).1
   subst hn
   have lf := lt_of_code hcf (f := f) (by simp)
   have lm := lt_of_code hcm (f := m) (by simp)
   have hpr := prime_of hcf
   obtain ⟨d, hmon, hd1, hd5⟩ := mon_up hm5
   have h0 : 0 ≤ deg m := by rw [hmon.1]; omega
   have h12 : deg m ≤ 12 := by rw [hmon.1]; omega
   cases hu : eqN 64 (bzD n f m) oneP with
   | false =>
    have HV := Lib.hid (orV_no hc hu)
    have HU := Lib.hid (fun W => l02Unit_any n f m W hpr lf lm h0)
    rw [hu] at HU
    have HO := Lib.hid (fun W => l02Order_any n f m W hpr lf lm h0 h12)
    obtain ⟨od, hod⟩ : ∃ x, x = odN n f m := ⟨_, rfl⟩
    rw [← hod] at HO
    rw [hc]
    clear hod hc hmon hd1 hd5 hm5 hcm hcf hu
    go_upto_region 4 with (fail)
    go_upto_region 5 with (first | (refine zla (.tmp 4) B0 Try.underlying23 Try.size23 ?_) | (refine zla (.tmp 5) B1 Try.underlying23 Try.size23 ?_) | (go_at_call 116; refine (HU.out _).mono ?_; rintro e W11 ⟨rfl, hW11⟩; replace B0 := B0.zw hW11; replace B1 := B1.zw hW11; replace hb := (hb).trans (hW11.mono (hb).size)))
    go_wp2_with fail
    go_ret2
    exact ⟨by rw [HV.out]; rfl, hb⟩
   | true =>
    have HV := Lib.hid (orV_ok hc hu)
    have HU := Lib.hid (fun W => l02Unit_any n f m W hpr lf lm h0)
    rw [hu] at HU
    have HO := Lib.hid (fun W => l02Order_any n f m W hpr lf lm h0 h12)
    obtain ⟨od, hod⟩ : ∃ x, x = odN n f m := ⟨_, rfl⟩
    rw [← hod] at HO HV
    rw [hc]
    clear hod hc hmon hd1 hd5 hm5 hcm hcf hu
    go_upto_region 4 with (fail)
    go_upto_region 6 with (first | (refine zla (.tmp 4) B0 Try.underlying23 Try.size23 ?_) | (refine zla (.tmp 5) B1 Try.underlying23 Try.size23 ?_) | (go_at_call 116; refine (HU.out _).mono ?_; rintro e W11 ⟨rfl, hW11⟩; replace B0 := B0.zw hW11; replace B1 := B1.zw hW11; replace hb := (hb).trans (hW11.mono (hb).size)))
    go_wp2_with (first | (refine zla (.tmp 4) B0 Try.underlying23 Try.size23 ?_) | (refine zla (.tmp 5) B1 Try.underlying23 Try.size23 ?_) | (go_at_call 117; refine (HO.out _).mono ?_; rintro e W12 ⟨rfl, hW12⟩; replace B0 := B0.zw hW12; replace B1 := B1.zw hW12; replace hb := (hb).trans (hW12.mono (hb).size)))
    go_ret2
    exact ⟨by rw [HV.out]; rfl, hb⟩
set_option maxRecDepth 100000 in
set_option maxHeartbeats 3200000 in
theorem impl_OrderModulo_any (p : Int) (f m : Nat → Nat) (hf : byte f) (hm : byte m) (w : World) :
 Calls Try.prog 52 #[.int .i64 p, .agg (zb 64 f), .agg (zb 64 m)] w fun e w' => e = .returned (.tuple #[.int .i64 (orV p f m).1, .int .i64 (orV p f m).2]) ∧ Below w.heap.size w w' := by
 go_enter Try.func52, Try.ntmps52
 go_upto_region 1 with (fail)
 obtain ⟨W1, hwo⟩ : ∃ v : World, v = ((w.alloc (.cells (zb 64 (f)) 23)).alloc (.cells (zb 64 (m)) 23)) := ⟨_, rfl⟩
 have B0 : Blk W1 (w.heap.size) 64 23 (f) := by subst hwo; have := ((Blk.new w 64 23 (f)).alloc (.cells (zb 64 (m)) 23)); simpa using this
 have B1 : Blk W1 (w.heap.size + 1) 64 23 (m) := by subst hwo; have := (Blk.new (w.alloc (.cells (zb 64 (f)) 23)) 64 23 (m)); simpa using this
 have hb : Below w.heap.size w W1 := by subst hwo; exact (((Below.refl _ _).alloc (Nat.le_refl _) _).alloc (by simp) _)
 rw [← hwo]
 clear hwo
 go_upto_region 2 with (first | (refine zla (.tmp 5) B1 Try.underlying23 Try.size23 ?_) | (refine zla (.tmp 4) B0 Try.underlying23 Try.size23 ?_) | (refine wpList_build_polys rfl 33 _ [f] rfl 23 rfl Try.underlying33 Try.elem23 (by simp) (by simp) rfl ?_; intro wa hwa hps hba; clear hwa) | (go_at_call 118; refine (checkModulus_any p m hm [f] (by simp [hf]) _ _ hps (by simp)).mono ?_; rintro e W2 ⟨rfl, hbb⟩))
 have hBB : Below W1.heap.size W1 W2 := hba.trans (hbb.mono hba.size)
 replace B0 := B0.zw hBB
 replace B1 := B1.zw hBB
 replace hb := hb.trans (hBB.mono hb.size)
 clear hBB hba hbb hps
 rcases modV_cases (p := p) (m := m) (fs := [f]) with ⟨c, hc, hc0, hc12⟩ | ⟨hc, hcm, hcf, hm5⟩
 · have HV := Lib.hid (orV_code hc hc0)
   rw [hc]
   clear hc
   have hb1 : ((c : Int) != 0) = true := by simp [hc0]
   go_wp2_with fail
   go_ret2
   exact ⟨by rw [HV.out]; rfl, hb⟩
 · obtain ⟨n, hn, n2, n7⟩ := okP_nat (codeL_zero hcf).1
   subst hn
   have lf := lt_of_code hcf (f := f) (by simp)
   have lm := lt_of_code hcm (f := m) (by simp)
   have hpr := prime_of hcf
   obtain ⟨d, hmon, hd1, hd5⟩ := mon_up hm5
   have h0 : 0 ≤ deg m := by rw [hmon.1]; omega
   have h12 : deg m ≤ 12 := by rw [hmon.1]; omega
   cases hu : eqN 64 (bzD n f m) oneP with
   | false =>
    have HV := Lib.hid (orV_no hc hu)
    have HU := Lib.hid (fun W => isUnit_any n f m W hpr lf lm h0)
    rw [hu] at HU
    have HO := Lib.hid (fun W => orderOf_any n f m W hpr lf lm h0 h12)
    obtain ⟨od, hod⟩ : ∃ x, x = odN n f m := ⟨_, rfl⟩
    rw [← hod] at HO
    rw [hc]
    clear hod hc hmon hd1 hd5 hm5 hcm hcf hu
    go_upto_region 4 with (fail)
    go_upto_region 5 with (first | (refine zla (.tmp 4) B0 Try.underlying23 Try.size23 ?_) | (refine zla (.tmp 5) B1 Try.underlying23 Try.size23 ?_) | (go_at_call 119; refine (HU.out _).mono ?_; rintro e W11 ⟨rfl, hW11⟩; replace B0 := B0.zw hW11; replace B1 := B1.zw hW11; replace hb := (hb).trans (hW11.mono (hb).size)))
    go_wp2_with fail
    go_ret2
    exact ⟨by rw [HV.out]; rfl, hb⟩
   | true =>
    have HV := Lib.hid (orV_ok hc hu)
    have HU := Lib.hid (fun W => isUnit_any n f m W hpr lf lm h0)
    rw [hu] at HU
    have HO := Lib.hid (fun W => orderOf_any n f m W hpr lf lm h0 h12)
    obtain ⟨od, hod⟩ : ∃ x, x = odN n f m := ⟨_, rfl⟩
    rw [← hod] at HO HV
    rw [hc]
    clear hod hc hmon hd1 hd5 hm5 hcm hcf hu
    go_upto_region 4 with (fail)
    go_upto_region 6 with (first | (refine zla (.tmp 4) B0 Try.underlying23 Try.size23 ?_) | (refine zla (.tmp 5) B1 Try.underlying23 Try.size23 ?_) | (go_at_call 119; refine (HU.out _).mono ?_; rintro e W11 ⟨rfl, hW11⟩; replace B0 := B0.zw hW11; replace B1 := B1.zw hW11; replace hb := (hb).trans (hW11.mono (hb).size)))
    go_wp2_with (first | (refine zla (.tmp 4) B0 Try.underlying23 Try.size23 ?_) | (refine zla (.tmp 5) B1 Try.underlying23 Try.size23 ?_) | (go_at_call 120; refine (HO.out _).mono ?_; rintro e W12 ⟨rfl, hW12⟩; replace B0 := B0.zw hW12; replace B1 := B1.zw hW12; replace hb := (hb).trans (hW12.mono (hb).size)))
    go_ret2
    exact ⟨by rw [HV.out]; rfl, hb⟩
end Go.Proofs.Ytoncepgcfifgbaa
end
section
namespace Go.Proofs.Ytoncepgcfifgbaa
open Go.RowKit
set_option linter.unusedVariables false
set_option linter.unusedSimpArgs false
set_option maxRecDepth 100000 in
set_option maxHeartbeats 1600000 in
theorem FnExactOrderModulo_walk (p : Int) (f : Nat → Nat) (m : Nat → Nat) (hf : byte f) (hm : byte m) (w : World) :
 Calls Try.prog 12 #[.int .i64 p, .agg (zb 64 f), .agg (zb 64 m)] w fun e w' => e = .returned (.bool true) ∧ Below w.heap.size w w' := by
 go_enter Try.func12, Try.ntmps12
 go_upto_region 1 with (fail)
 obtain ⟨wo, hwo⟩ : ∃ wo : World, wo = ((w.alloc (.cells (zb 64 f) 22)).alloc (.cells (zb 64 m) 22)) := ⟨_, rfl⟩
 have bf : Blk wo (w.heap.size) 64 22 f := by subst hwo; have := ((Blk.new w 64 22 f).alloc (.cells (zb 64 m) 22)); simpa using this
 have bm : Blk wo (w.heap.size + 1) 64 22 m := by subst hwo; have := (Blk.new (w.alloc (.cells (zb 64 f) 22)) 64 22 m); simpa using this
 have hb : Below w.heap.size w wo := by subst hwo; exact (((Below.refl _ _).alloc (Nat.le_refl _) _).alloc (by simp) _)
 rw [← hwo]
 clear hwo
 refine wp_region_steps Try.mixed (by kernel_rfl) (by kernel_rfl) (fun v => by (simp only [frL, Act.put, pA, pB, pC, Nat.reduceAdd, Nat.zero_add]; exact rfl))
  (fun L v w1 => Below wo.heap.size wo w1 ∧ (L 0 = true → v 0 = (.int .i64 p)) ∧ (L 1 = true → v 1 = (.agg (zb 64 (f)))) ∧ (L 2 = true → v 2 = (.agg (zb 64 (f)))) ∧ (L 3 = true → v 3 = (.agg (zb 64 (m)))) ∧ (L 4 = true → v 4 = (.agg (zb 64 (m)))) ∧ (L 5 = true → v 5 = (.tuple #[(.int .i64 ((orV p f m).1)), (.int .i64 ((orV p f m).2))])) ∧ (L 6 = true → v 6 = (.tuple #[(.int .i64 ((orV p f m).1)), (.int .i64 ((orV p f m).2))])) ∧ (L 7 = true → v 7 = (.int .i64 ((orV p f m).1))) ∧ (L 8 = true → v 8 = (.int .i64 ((orV p f m).2))) ∧ (L 9 = true → v 9 = (.int .i64 ((orV p f m).1))) ∧ (L 10 = true → v 10 = (.int .i64 ((orV p f m).2)))) ?_ ?_ ?_
 · intro v
   exact ⟨(Below.refl _ _).drew, (fun h => by cases h), (fun h => by cases h), (fun h => by cases h), (fun h => by cases h), (fun h => by cases h), (fun h => by cases h), (fun h => by cases h), (fun h => by cases h), (fun h => by cases h), (fun h => by cases h), (fun h => by cases h)⟩
 · refine (.cons rfl ?_ (.cons rfl ?_ (.cons rfl ?_ (.cons rfl ?_ (.cons rfl ?_ (.cons rfl ?_ (.cons rfl ?_ (.cons rfl ?_ (.cons rfl ?_ (.cons rfl ?_ (.cons rfl ?_ (.nil _))))))))))))
   all_goals intro L v w1 hd hn ⟨hS1, h0, h1, h2, h3, h4, h5, h6, h7, h8, h9, h10⟩ K hK
   · go_wp2_with fail
     exact hK _ (.int .i64 p) _ (by simp only [Act.put, pA, pB, pC ]) ⟨hS1, fun _ => rfl, h1, h2, h3, h4, h5, h6, h7, h8, h9, h10⟩
   · refine wp_load_blk 22 _ rfl _ rfl 64 22 _ (bf.zw hS1) _ Try.underlying22 Try.size22 ?_
     exact hK _ _ _ rfl ⟨hS1, h0, fun _ => rfl, h2, h3, h4, h5, h6, h7, h8, h9, h10⟩
   · have e1 := h1 (zdq hd 1 rfl)
     go_wp2_with (go_at_call 26; refine (toPoly_any _ hf _).mono ?_; rintro e w1y ⟨rfl, hy⟩)
     exact hK _ (.agg (zb 64 (f))) _ (by simp only [Act.put, pA, pB, pC, e1]) ⟨hS1.trans (hy.mono hS1.size), h0, h1, fun _ => rfl, h3, h4, h5, h6, h7, h8, h9, h10⟩
   · refine wp_load_blk 22 _ rfl _ rfl 64 22 _ (bm.zw hS1) _ Try.underlying22 Try.size22 ?_
     exact hK _ _ _ rfl ⟨hS1, h0, h1, h2, fun _ => rfl, h4, h5, h6, h7, h8, h9, h10⟩
   · have e3 := h3 (zdq hd 3 rfl)
     go_wp2_with (go_at_call 26; refine (toPoly_any _ hm _).mono ?_; rintro e w1y ⟨rfl, hy⟩)
     exact hK _ (.agg (zb 64 (m))) _ (by simp only [Act.put, pA, pB, pC, e3]) ⟨hS1.trans (hy.mono hS1.size), h0, h1, h2, h3, fun _ => rfl, h5, h6, h7, h8, h9, h10⟩
   · have e0 := h0 (zdq hd 0 rfl)
     have e2 := h2 (zdq hd 2 rfl)
     have e4 := h4 (zdq hd 4 rfl)
     go_wp2_with (go_at_call 51; refine (spec_OrderModulo_any p f m hf hm _).mono ?_; rintro e w1y ⟨rfl, hy⟩)
     exact hK _ (.tuple #[(.int .i64 ((orV p f m).1)), (.int .i64 ((orV p f m).2))]) _ (by simp only [Act.put, pA, pB, pC, e0, e2, e4]) ⟨hS1.trans (hy.mono hS1.size), h0, h1, h2, h3, h4, fun _ => rfl, h6, h7, h8, h9, h10⟩
   · have e5 := h5 (zdq hd 5 rfl)
     go_wp2_with fail
     exact hK _ (.tuple #[(.int .i64 ((orV p f m).1)), (.int .i64 ((orV p f m).2))]) _ (by simp only [Act.put, pA, pB, pC, e5]) ⟨hS1, h0, h1, h2, h3, h4, h5, fun _ => rfl, h7, h8, h9, h10⟩
   · have e6 := h6 (zdq hd 6 rfl)
     go_wp2_with fail
     exact hK _ (.int .i64 ((orV p f m).1)) _ (by simp only [Act.put, pA, pB, pC, e6]) ⟨hS1, h0, h1, h2, h3, h4, h5, h6, fun _ => rfl, h8, h9, h10⟩
   · have e6 := h6 (zdq hd 6 rfl)
     go_wp2_with fail
     exact hK _ (.int .i64 ((orV p f m).2)) _ (by simp only [Act.put, pA, pB, pC, e6]) ⟨hS1, h0, h1, h2, h3, h4, h5, h6, h7, fun _ => rfl, h9, h10⟩
   · have e7 := h7 (zdq hd 7 rfl)
     go_wp2_with fail
     exact hK _ (.int .i64 ((orV p f m).1)) _ (by simp only [Act.put, pA, pB, pC, e7]) ⟨hS1, h0, h1, h2, h3, h4, h5, h6, h7, h8, fun _ => rfl, h10⟩
   · have e8 := h8 (zdq hd 8 rfl)
     go_wp2_with fail
     exact hK _ (.int .i64 ((orV p f m).2)) _ (by simp only [Act.put, pA, pB, pC, e8]) ⟨hS1, h0, h1, h2, h3, h4, h5, h6, h7, h8, h9, fun _ => rfl⟩
 · intro L v w1 hL ⟨hS1, h0, h1, h2, h3, h4, h5, h6, h7, h8, h9, h10⟩
   have e0 := h0 (hL 0 (by decide))
   have e1 := h1 (hL 1 (by decide))
   have e2 := h2 (hL 2 (by decide))
   have e3 := h3 (hL 3 (by decide))
   have e4 := h4 (hL 4 (by decide))
   have e5 := h5 (hL 5 (by decide))
   have e6 := h6 (hL 6 (by decide))
   have e7 := h7 (hL 7 (by decide))
   have e8 := h8 (hL 8 (by decide))
   have e9 := h9 (hL 9 (by decide))
   have e10 := h10 (hL 10 (by decide))
   clear hL h0 h1 h2 h3 h4 h5 h6 h7 h8 h9 h10
   simp only [Exit.then, e0, e1, e2, e3, e4, e5, e6, e7, e8, e9, e10]
   clear e0 e1 e2 e3 e4 e5 e6 e7 e8 e9 e10
   go_upto_region 2 with (fail)
   replace bf := bf.zw hS1
   replace bm := bm.zw hS1
   refine wp_region_steps Try.mixed (by kernel_rfl) (by kernel_rfl) (fun v => by (simp only [frL, Act.put, pA, pB, pC, Nat.reduceAdd, Nat.zero_add]; exact rfl))
    (fun L v w2 => Below w1.heap.size w1 w2 ∧ (L 0 = true → v 0 = (.int .i64 p)) ∧ (L 1 = true → v 1 = (.agg (zb 64 (f)))) ∧ (L 2 = true → v 2 = (.agg (zb 64 (f)))) ∧ (L 3 = true → v 3 = (.agg (zb 64 (m)))) ∧ (L 4 = true → v 4 = (.agg (zb 64 (m)))) ∧ (L 5 = true → v 5 = (.tuple #[(.int .i64 ((orV p f m).1)), (.int .i64 ((orV p f m).2))])) ∧ (L 6 = true → v 6 = (.tuple #[(.int .i64 ((orV p f m).1)), (.int .i64 ((orV p f m).2))])) ∧ (L 7 = true → v 7 = (.int .i64 ((orV p f m).1))) ∧ (L 8 = true → v 8 = (.int .i64 ((orV p f m).2))) ∧ (L 9 = true → v 9 = (.int .i64 ((orV p f m).1))) ∧ (L 10 = true → v 10 = (.int .i64 ((orV p f m).2)))) ?_ ?_ ?_
   · intro v
     exact ⟨(Below.refl _ _).drew, (fun h => by cases h), (fun h => by cases h), (fun h => by cases h), (fun h => by cases h), (fun h => by cases h), (fun h => by cases h), (fun h => by cases h), (fun h => by cases h), (fun h => by cases h), (fun h => by cases h), (fun h => by cases h)⟩
   · refine (.cons rfl ?_ (.cons rfl ?_ (.cons rfl ?_ (.cons rfl ?_ (.cons rfl ?_ (.cons rfl ?_ (.cons rfl ?_ (.cons rfl ?_ (.cons rfl ?_ (.cons rfl ?_ (.cons rfl ?_ (.nil _))))))))))))
     all_goals intro L v w2 hd hn ⟨hS2, h0, h1, h2, h3, h4, h5, h6, h7, h8, h9, h10⟩ K hK
     · go_wp2_with fail
       exact hK _ (.int .i64 p) _ (by simp only [Act.put, pA, pB, pC ]) ⟨hS2, fun _ => rfl, h1, h2, h3, h4, h5, h6, h7, h8, h9, h10⟩
     · refine wp_load_blk 22 _ rfl _ rfl 64 22 _ (bf.zw hS2) _ Try.underlying22 Try.size22 ?_
       exact hK _ _ _ rfl ⟨hS2, h0, fun _ => rfl, h2, h3, h4, h5, h6, h7, h8, h9, h10⟩
     · have e1 := h1 (zdq hd 1 rfl)
       go_wp2_with (go_at_call 26; refine (toPoly_any _ hf _).mono ?_; rintro e w2y ⟨rfl, hy⟩)
       exact hK _ (.agg (zb 64 (f))) _ (by simp only [Act.put, pA, pB, pC, e1]) ⟨hS2.trans (hy.mono hS2.size), h0, h1, fun _ => rfl, h3, h4, h5, h6, h7, h8, h9, h10⟩
     · refine wp_load_blk 22 _ rfl _ rfl 64 22 _ (bm.zw hS2) _ Try.underlying22 Try.size22 ?_
       exact hK _ _ _ rfl ⟨hS2, h0, h1, h2, fun _ => rfl, h4, h5, h6, h7, h8, h9, h10⟩
     · have e3 := h3 (zdq hd 3 rfl)
       go_wp2_with (go_at_call 26; refine (toPoly_any _ hm _).mono ?_; rintro e w2y ⟨rfl, hy⟩)
       exact hK _ (.agg (zb 64 (m))) _ (by simp only [Act.put, pA, pB, pC, e3]) ⟨hS2.trans (hy.mono hS2.size), h0, h1, h2, h3, fun _ => rfl, h5, h6, h7, h8, h9, h10⟩
     · have e0 := h0 (zdq hd 0 rfl)
       have e2 := h2 (zdq hd 2 rfl)
       have e4 := h4 (zdq hd 4 rfl)
       go_wp2_with (go_at_call 52; refine (impl_OrderModulo_any p f m hf hm _).mono ?_; rintro e w2y ⟨rfl, hy⟩)
       exact hK _ (.tuple #[(.int .i64 ((orV p f m).1)), (.int .i64 ((orV p f m).2))]) _ (by simp only [Act.put, pA, pB, pC, e0, e2, e4]) ⟨hS2.trans (hy.mono hS2.size), h0, h1, h2, h3, h4, fun _ => rfl, h6, h7, h8, h9, h10⟩
     · have e5 := h5 (zdq hd 5 rfl)
       go_wp2_with fail
       exact hK _ (.tuple #[(.int .i64 ((orV p f m).1)), (.int .i64 ((orV p f m).2))]) _ (by simp only [Act.put, pA, pB, pC, e5]) ⟨hS2, h0, h1, h2, h3, h4, h5, fun _ => rfl, h7, h8, h9, h10⟩
     · have e6 := h6 (zdq hd 6 rfl)
       go_wp2_with fail
       exact hK _ (.int .i64 ((orV p f m).1)) _ (by simp only [Act.put, pA, pB, pC, e6]) ⟨hS2, h0, h1, h2, h3, h4, h5, h6, fun _ => rfl, h8, h9, h10⟩
     · have e6 := h6 (zdq hd 6 rfl)
       go_wp2_with fail
       exact hK _ (.int .i64 ((orV p f m).2)) _ (by simp only [Act.put, pA, pB, pC, e6]) ⟨hS2, h0, h1, h2, h3, h4, h5, h6, h7, fun _ => rfl, h9, h10⟩
     · have e7 := h7 (zdq hd 7 rfl)
       go_wp2_with fail
       exact hK _ (.int .i64 ((orV p f m).1)) _ (by simp only [Act.put, pA, pB, pC, e7]) ⟨hS2, h0, h1, h2, h3, h4, h5, h6, h7, h8, fun _ => rfl, h10⟩
     · have e8 := h8 (zdq hd 8 rfl)
       go_wp2_with fail
       exact hK _ (.int .i64 ((orV p f m).2)) _ (by simp only [Act.put, pA, pB, pC, e8]) ⟨hS2, h0, h1, h2, h3, h4, h5, h6, h7, h8, h9, fun _ => rfl⟩
   · intro L v w2 hL ⟨hS2, h0, h1, h2, h3, h4, h5, h6, h7, h8, h9, h10⟩
     have e0 := h0 (hL 0 (by decide))
     have e1 := h1 (hL 1 (by decide))
     have e2 := h2 (hL 2 (by decide))
     have e3 := h3 (hL 3 (by decide))
     have e4 := h4 (hL 4 (by decide))
     have e5 := h5 (hL 5 (by decide))
     have e6 := h6 (hL 6 (by decide))
     have e7 := h7 (hL 7 (by decide))
     have e8 := h8 (hL 8 (by decide))
     have e9 := h9 (hL 9 (by decide))
     have e10 := h10 (hL 10 (by decide))
     clear hL h0 h1 h2 h3 h4 h5 h6 h7 h8 h9 h10
     simp only [Exit.then, e0, e1, e2, e3, e4, e5, e6, e7, e8, e9, e10]
     clear e0 e1 e2 e3 e4 e5 e6 e7 e8 e9 e10
     have ha : Below w2.heap.size w2 w2 := Below.refl _ _
     have hne : (((orV p f m).1) != ((orV p f m).1)) = false := by simp
     have hne : (((orV p f m).2) != ((orV p f m).2)) = false := by simp
     go_wp2_with (first | (go_at_call 28; refine (acc (eqPoly_same _ _ (fun _ _ => rfl) _) (by assumption)).mono ?_; rintro e w3 ⟨rfl, h3, ha⟩))
     go_ret
     exact ⟨rfl, hb.trans ((hS1.trans ((hS2.trans (ha.mono hS2.size)).mono hS1.size)).mono hb.size)⟩
end Go.Proofs.Ytoncepgcfifgbaa
end
