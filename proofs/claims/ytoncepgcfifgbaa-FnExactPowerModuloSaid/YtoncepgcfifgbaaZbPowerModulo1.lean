/-
  What the rows of this claim rest on: arrays of bytes, walks of the functions, plain mathematics.
-/
import Derived.Test.YtoncepgcfifgbaaZb7
import Derived.Maps.OwnOps
import Derived.DeepKeys4
import Derived.Carry
import Derived.Test.YtoncepgcfifgbaaProg
import Derived.WalkKit
import Derived.WalkSpells
import Derived.WalkLawsBesides
import Derived.Lib.Hide
import Derived.Laws.Rows
import Derived.Laws.CopyOwn
import Derived.Deep.QuietTactic
import Derived.Deep.WholeRow
import Derived.Deep.Draws
import Derived.Deep.MidRow
import Derived.Deep.CutRange
import Derived.Deep.DeepCutAuto
import Derived.Deep.RegionHeld3
import Derived.BigQuiet
import Derived.BigRegion
import Derived.Test.YtoncepgcfifgbaaRows
import Derived.Great.BuildSlice
import Derived.Laws.Tables
import Derived.Laws.StructEq
import Derived.ScopeJumps
section
namespace Go.Proofs.Ytoncepgcfifgbaa
open Go.RowKit
set_option linter.unusedVariables false
set_option linter.unusedSimpArgs false
attribute [local irreducible] deg invN dS qS stp stpr quoP resP oneP upP upF hmR mmP shA addK pgR mmC pmI pmP
/-- both answers -/
def pwV (p : Int) (f : Nat → Nat) (k : Int) (m : Nat → Nat) : (Nat → Nat) × Int := if codeL p [f, m] = 0 then (if 0 ≤ k ∧ k ≤ 1000000000000 then (if deg m < 0 then (fun _ => 0, 5) else (pmP p.toNat f k.toNat m, 0)) else (fun _ => 0, 2)) else (fun _ => 0, 1)
theorem pwV_1 {p k : Int} {f m : Nat → Nat} (h : codeL p [f, m] = 1) : pwV p f k m = (fun _ => 0, 1) := by unfold pwV; rw [if_neg (by omega)]
theorem pwV_2 {p k : Int} {f m : Nat → Nat} (h : codeL p [f, m] = 0) (h2 : ¬ (0 ≤ k ∧ k ≤ 1000000000000)) : pwV p f k m = (fun _ => 0, 2) := by unfold pwV; rw [if_pos h, if_neg h2]
theorem pwV_5 {p k : Int} {f m : Nat → Nat} (h : codeL p [f, m] = 0) (h2 : 0 ≤ k ∧ k ≤ 1000000000000) (h3 : deg m < 0) : pwV p f k m = (fun _ => 0, 5) := by unfold pwV; rw [if_pos h, if_pos h2, if_pos h3]
theorem pwV_0 {n k : Nat} {f m : Nat → Nat} (h : codeL (n : Int) [f, m] = 0) (h2 : 0 ≤ (k : Int) ∧ (k : Int) ≤ 1000000000000) (h3 : ¬ deg m < 0) : pwV (n : Int) f (k : Int) m = (pmP n f k m, 0) := by
 unfold pwV; rw [if_pos h, if_pos h2, if_neg h3]; rfl
set_option maxRecDepth 100000 in
set_option maxHeartbeats 1600000 in
theorem impl_PowerModulo_any (p : Int) (f : Nat → Nat) (k : Int) (m : Nat → Nat) (hf : byte f) (hm : byte m) (w : World) :
 Calls Try.prog 32 #[.int .i64 p, .agg (zb 64 f), .int .i64 k, .agg (zb 64 m)] w fun e w' => e = .returned (.tuple #[.agg (zb 64 (pwV p f k m).1), .int .i64 (pwV p f k m).2]) ∧ Below w.heap.size w w' := by
 go_enter Try.func32, Try.ntmps32
 go_upto_region 1 with (fail)
 rw [← z64]
 obtain ⟨W1, hwo⟩ : ∃ v : World, v = (((w.alloc (.cells (zb 64 (f)) 23)).alloc (.cells (zb 64 (m)) 23)).alloc (.cells (zb 64 (fun _ => 0)) 23)) := ⟨_, rfl⟩
 have B0 : Blk W1 (w.heap.size) 64 23 (f) := by subst hwo; have := (((Blk.new w 64 23 (f)).alloc (.cells (zb 64 (m)) 23)).alloc (.cells (zb 64 (fun _ => 0)) 23)); simpa using this
 have B1 : Blk W1 (w.heap.size + 1) 64 23 (m) := by subst hwo; have := ((Blk.new (w.alloc (.cells (zb 64 (f)) 23)) 64 23 (m)).alloc (.cells (zb 64 (fun _ => 0)) 23)); simpa using this
 have B2 : Blk W1 (w.heap.size + 1 + 1) 64 23 (fun _ => 0) := by subst hwo; have := (Blk.new ((w.alloc (.cells (zb 64 (f)) 23)).alloc (.cells (zb 64 (m)) 23)) 64 23 (fun _ => 0)); simpa using this
 have hb : Below w.heap.size w W1 := by subst hwo; exact ((((Below.refl _ _).alloc (Nat.le_refl _) _).alloc (by simp) _).alloc (by simp; omega) _)
 rw [← hwo]
 clear hwo
 go_upto_region 2 with (first | (refine zla (.tmp 5) B0 Try.underlying23 Try.size23 ?_) | (refine zla (.tmp 7) B1 Try.underlying23 Try.size23 ?_) | (refine wpList_build_polys rfl 33 _ [f, m] rfl 23 rfl Try.underlying33 Try.elem23 (by simp) (by simp) rfl ?_; intro wa hwa hps hba; clear hwa) | (go_at_call 86; refine (checkPolys_any p [f, m] (by simp [hf, hm]) _ _ hps (by simp)).mono ?_; rintro e W2 ⟨rfl, hbb⟩))
 have hBB : Below W1.heap.size W1 W2 := hba.trans (hbb.mono hba.size)
 replace B0 := B0.zw hBB
 replace B1 := B1.zw hBB
 replace B2 := B2.zw hBB
 replace hb := hb.trans (hBB.mono hb.size)
 clear hBB hba hbb hps
 rcases codeL_two p [f, m] with hc | hc
 · obtain ⟨n, hn, n2, n7⟩ := okP_nat (codeL_zero hc).1
   subst hn
   have lf := lt_of_code hc (f := f) (by simp)
   have lm := lt_of_code hc (f := m) (by simp)
   have hpr := prime_of hc
   by_cases hr : 0 ≤ k ∧ k ≤ 1000000000000
   · obtain ⟨k, rfl⟩ : ∃ j : Nat, k = (j : Int) := ⟨k.toNat, by omega⟩
     have hr1 := hr.1; have hr2 := hr.2
     by_cases hz : deg m < 0
     · have HV := Lib.hid (pwV_5 hc hr hz)
       have hgd := Try.noGuard23
       have heq := fun W => zeb (P := Try.prog) W 9998 23 5 64 m (fun _ => 0) Try.underlying23 Try.underlying5 Try.size5
       rw [eqN_zero, show decide (deg m < 0) = true by simp; omega] at heq
       simp only [z64] at heq
       rw [hc]
       clear hc hr
       go_upto_region 6 with (fail)
       go_upto_region 7 with (first | (refine zla (.tmp 7) B1 Try.underlying23 Try.size23 ?_))
       clear heq hgd
       have lt_B0 := B0.lt
       have lt_B1 := B1.lt
       have lt_B2 := B2.lt
       go_wp2_with (first | rw [← z64] | (refine zsr (.tmp 8) (.tmp 30) (fun _ => 0) B2 Try.size23 ?_; try simp only [Act.put]; go_wp2_with fail))
       obtain ⟨W3, hwo, hzQ⟩ : ∃ v : World, v = (W2.setRow (w.heap.size + 1 + 1) (zb 64 (fun _ => 0))) ∧ Blk v (w.heap.size) 64 23 (f) ∧ Blk v (w.heap.size + 1) 64 23 (m) ∧ Blk v (w.heap.size + 1 + 1) 64 23 (fun _ => 0) ∧ Below w.heap.size w v := ⟨_, rfl, (B0.rowOther (by omega)), (B1.rowOther (by omega)), (B2.row (fun _ => 0)), (zr hb (by omega) _)⟩
       rw [← hwo]
       clear hwo B0 B1 B2 hb
       obtain ⟨B0, B1, B2, hb⟩ := hzQ
       try simp only [Act.put, pA, pB, pC]
       refine bodyPost_ret (results_bt rfl _ _ _ 64 23 5 _ rfl B2 Try.underlying23 Try.size23) rfl ⟨by first | (rw [HV.out]; rfl) | rw [HV.out], hb⟩
     · have HV := Lib.hid (pwV_0 hc hr hz)
       have HP := Lib.hid (fun W => powerModulo_any n f k m W hpr lf lm (by omega) hr2)
       have hgd := Try.noGuard23
       have heq := fun W => zeb (P := Try.prog) W 9998 23 5 64 m (fun _ => 0) Try.underlying23 Try.underlying5 Try.size5
       rw [eqN_zero, show decide (deg m < 0) = false by simp; omega] at heq
       simp only [z64] at heq
       rw [hc]
       clear hc hr
       go_upto_region 6 with (fail)
       go_upto_region 8 with (first | (refine zla (.tmp 7) B1 Try.underlying23 Try.size23 ?_))
       clear heq hgd
       have lt_B0 := B0.lt
       have lt_B1 := B1.lt
       have lt_B2 := B2.lt
       go_wp2_with (first | rw [← z64] | (refine zla (.tmp 5) B0 Try.underlying23 Try.size23 ?_) | (refine zla (.tmp 7) B1 Try.underlying23 Try.size23 ?_) | (go_at_call 97; refine (HP.out _).mono ?_; rintro e W3 ⟨rfl, hW3⟩; replace B0 := B0.zw hW3; replace B1 := B1.zw hW3; replace B2 := B2.zw hW3; replace hb := (hb).trans (hW3.mono (hb).size)) | (refine zsr (.tmp 8) (.tmp 35) (pmP n f k m) B2 Try.size23 ?_; try simp only [Act.put]; go_wp2_with fail))
       obtain ⟨W4, hwo, hzQ⟩ : ∃ v : World, v = (W3.setRow (w.heap.size + 1 + 1) (zb 64 (pmP n f k m))) ∧ Blk v (w.heap.size) 64 23 (f) ∧ Blk v (w.heap.size + 1) 64 23 (m) ∧ Blk v (w.heap.size + 1 + 1) 64 23 (pmP n f k m) ∧ Below w.heap.size w v := ⟨_, rfl, (B0.rowOther (by omega)), (B1.rowOther (by omega)), (B2.row (pmP n f k m)), (zr hb (by omega) _)⟩
       rw [← hwo]
       clear hwo B0 B1 B2 hb
       obtain ⟨B0, B1, B2, hb⟩ := hzQ
       try simp only [Act.put, pA, pB, pC]
       refine bodyPost_ret (results_bt rfl _ _ _ 64 23 5 _ rfl B2 Try.underlying23 Try.size23) rfl ⟨by first | (rw [HV.out]; rfl) | rw [HV.out], hb⟩
   · have HV := Lib.hid (pwV_2 hc hr)
     rw [hc]
     clear hc
     by_cases h1 : k < 0
     · clear hr
       go_upto_region 5 with (fail)
       have lt_B0 := B0.lt
       have lt_B1 := B1.lt
       have lt_B2 := B2.lt
       go_wp2_with (first | rw [← z64] | (refine zsr (.tmp 8) (.tmp 26) (fun _ => 0) B2 Try.size23 ?_; try simp only [Act.put]; go_wp2_with fail))
       obtain ⟨W3, hwo, hzQ⟩ : ∃ v : World, v = (W2.setRow (w.heap.size + 1 + 1) (zb 64 (fun _ => 0))) ∧ Blk v (w.heap.size) 64 23 (f) ∧ Blk v (w.heap.size + 1) 64 23 (m) ∧ Blk v (w.heap.size + 1 + 1) 64 23 (fun _ => 0) ∧ Below w.heap.size w v := ⟨_, rfl, (B0.rowOther (by omega)), (B1.rowOther (by omega)), (B2.row (fun _ => 0)), (zr hb (by omega) _)⟩
       rw [← hwo]
       clear hwo B0 B1 B2 hb
       obtain ⟨B0, B1, B2, hb⟩ := hzQ
       try simp only [Act.put, pA, pB, pC]
       refine bodyPost_ret (results_bt rfl _ _ _ 64 23 5 _ rfl B2 Try.underlying23 Try.size23) rfl ⟨by first | (rw [HV.out]; rfl) | rw [HV.out], hb⟩
     · have h2 : 1000000000000 < k := by omega
       clear hr
       go_upto_region 5 with (fail)
       have lt_B0 := B0.lt
       have lt_B1 := B1.lt
       have lt_B2 := B2.lt
       go_wp2_with (first | rw [← z64] | (refine zsr (.tmp 8) (.tmp 26) (fun _ => 0) B2 Try.size23 ?_; try simp only [Act.put]; go_wp2_with fail))
       obtain ⟨W3, hwo, hzQ⟩ : ∃ v : World, v = (W2.setRow (w.heap.size + 1 + 1) (zb 64 (fun _ => 0))) ∧ Blk v (w.heap.size) 64 23 (f) ∧ Blk v (w.heap.size + 1) 64 23 (m) ∧ Blk v (w.heap.size + 1 + 1) 64 23 (fun _ => 0) ∧ Below w.heap.size w v := ⟨_, rfl, (B0.rowOther (by omega)), (B1.rowOther (by omega)), (B2.row (fun _ => 0)), (zr hb (by omega) _)⟩
       rw [← hwo]
       clear hwo B0 B1 B2 hb
       obtain ⟨B0, B1, B2, hb⟩ := hzQ
       try simp only [Act.put, pA, pB, pC]
       refine bodyPost_ret (results_bt rfl _ _ _ 64 23 5 _ rfl B2 Try.underlying23 Try.size23) rfl ⟨by first | (rw [HV.out]; rfl) | rw [HV.out], hb⟩
 · have HV := Lib.hid (pwV_1 (k := k) hc)
   rw [hc]
   clear hc
   go_upto_region 3 with (fail)
   have lt_B0 := B0.lt
   have lt_B1 := B1.lt
   have lt_B2 := B2.lt
   go_wp2_with (first | rw [← z64] | (refine zsr (.tmp 8) (.tmp 18) (fun _ => 0) B2 Try.size23 ?_; try simp only [Act.put]; go_wp2_with fail))
   obtain ⟨W3, hwo, hzQ⟩ : ∃ v : World, v = (W2.setRow (w.heap.size + 1 + 1) (zb 64 (fun _ => 0))) ∧ Blk v (w.heap.size) 64 23 (f) ∧ Blk v (w.heap.size + 1) 64 23 (m) ∧ Blk v (w.heap.size + 1 + 1) 64 23 (fun _ => 0) ∧ Below w.heap.size w v := ⟨_, rfl, (B0.rowOther (by omega)), (B1.rowOther (by omega)), (B2.row (fun _ => 0)), (zr hb (by omega) _)⟩
   rw [← hwo]
   clear hwo B0 B1 B2 hb
   obtain ⟨B0, B1, B2, hb⟩ := hzQ
   try simp only [Act.put, pA, pB, pC]
   refine bodyPost_ret (results_bt rfl _ _ _ 64 23 5 _ rfl B2 Try.underlying23 Try.size23) rfl ⟨by first | (rw [HV.out]; rfl) | rw [HV.out], hb⟩
set_option maxRecDepth 100000 in
set_option maxHeartbeats 1600000 in
theorem spec_PowerModulo_any (p : Int) (f : Nat → Nat) (k : Int) (m : Nat → Nat) (hf : byte f) (hm : byte m) (w : World) :
 Calls Try.prog 31 #[.int .i64 p, .agg (zb 64 f), .int .i64 k, .agg (zb 64 m)] w fun e w' => e = .returned (.tuple #[.agg (zb 64 (pwV p f k m).1), .int .i64 (pwV p f k m).2]) ∧ Below w.heap.size w w' := by
 go_enter Try.func31, Try.ntmps31
 go_upto_region 1 with (fail)
 rw [← z64]
 obtain ⟨W1, hwo⟩ : ∃ v : World, v = (((w.alloc (.cells (zb 64 (f)) 23)).alloc (.cells (zb 64 (m)) 23)).alloc (.cells (zb 64 (fun _ => 0)) 23)) := ⟨_, rfl⟩
 have B0 : Blk W1 (w.heap.size) 64 23 (f) := by subst hwo; have := (((Blk.new w 64 23 (f)).alloc (.cells (zb 64 (m)) 23)).alloc (.cells (zb 64 (fun _ => 0)) 23)); simpa using this
 have B1 : Blk W1 (w.heap.size + 1) 64 23 (m) := by subst hwo; have := ((Blk.new (w.alloc (.cells (zb 64 (f)) 23)) 64 23 (m)).alloc (.cells (zb 64 (fun _ => 0)) 23)); simpa using this
 have B2 : Blk W1 (w.heap.size + 1 + 1) 64 23 (fun _ => 0) := by subst hwo; have := (Blk.new ((w.alloc (.cells (zb 64 (f)) 23)).alloc (.cells (zb 64 (m)) 23)) 64 23 (fun _ => 0)); simpa using this
 have hb : Below w.heap.size w W1 := by subst hwo; exact ((((Below.refl _ _).alloc (Nat.le_refl _) _).alloc (by simp) _).alloc (by simp; omega) _)
 rw [← hwo]
 clear hwo
 go_upto_region 2 with (first | (refine zla (.tmp 5) B0 Try.underlying23 Try.size23 ?_) | (refine zla (.tmp 7) B1 Try.underlying23 Try.size23 ?_) | (refine wpList_build_polys rfl 33 _ [f, m] rfl 23 rfl Try.underlying33 Try.elem23 (by simp) (by simp) rfl ?_; intro wa hwa hps hba; clear hwa) | (go_at_call 85; refine (l01Code_any p [f, m] (by simp [hf, hm]) _ _ hps (by simp)).mono ?_; rintro e W2 ⟨rfl, hbb⟩))
 have hBB : Below W1.heap.size W1 W2 := hba.trans (hbb.mono hba.size)
 replace B0 := B0.zw hBB
 replace B1 := B1.zw hBB
 replace B2 := B2.zw hBB
 replace hb := hb.trans (hBB.mono hb.size)
 clear hBB hba hbb hps
 rcases codeL_two p [f, m] with hc | hc
 · obtain ⟨n, hn, n2, n7⟩ := okP_nat (codeL_zero hc).1
   subst hn
   have lf := lt_of_code hc (f := f) (by simp)
   have lm := lt_of_code hc (f := m) (by simp)
   have hpr := prime_of hc
   by_cases hr : 0 ≤ k ∧ k ≤ 1000000000000
   · obtain ⟨k, rfl⟩ : ∃ j : Nat, k = (j : Int) := ⟨k.toNat, by omega⟩
     have hr1 := hr.1; have hr2 := hr.2
     by_cases hz : deg m < 0
     · have HV := Lib.hid (pwV_5 hc hr hz)
       rw [hc]
       clear hc hr
       go_upto_region 4 with (fail)
       go_upto_region 6 with (first | (go_at_call 89; refine (l01In_any _ _ _ _).mono ?_; rintro e wS ⟨rfl, rfl⟩; rw [show decide ((0 : Int) ≤ (k : Int) ∧ (k : Int) ≤ 1000000000000) = true by simp; omega]))
       go_upto_region 7 with (first | (refine zla (.tmp 7) B1 Try.underlying23 Try.size23 ?_) | (go_at_call 88; refine (l01Deg_any _ _).mono ?_; rintro e W3 ⟨rfl, hW3⟩; replace B0 := B0.zw hW3; replace B1 := B1.zw hW3; replace B2 := B2.zw hW3; replace hb := (hb).trans (hW3.mono (hb).size)))
       have lt_B0 := B0.lt
       have lt_B1 := B1.lt
       have lt_B2 := B2.lt
       go_wp2_with (first | rw [← z64] | (refine zsr (.tmp 8) (.tmp 29) (fun _ => 0) B2 Try.size23 ?_; try simp only [Act.put]; go_wp2_with fail))
       obtain ⟨W4, hwo, hzQ⟩ : ∃ v : World, v = (W3.setRow (w.heap.size + 1 + 1) (zb 64 (fun _ => 0))) ∧ Blk v (w.heap.size) 64 23 (f) ∧ Blk v (w.heap.size + 1) 64 23 (m) ∧ Blk v (w.heap.size + 1 + 1) 64 23 (fun _ => 0) ∧ Below w.heap.size w v := ⟨_, rfl, (B0.rowOther (by omega)), (B1.rowOther (by omega)), (B2.row (fun _ => 0)), (zr hb (by omega) _)⟩
       rw [← hwo]
       clear hwo B0 B1 B2 hb
       obtain ⟨B0, B1, B2, hb⟩ := hzQ
       try simp only [Act.put, pA, pB, pC]
       refine bodyPost_ret (results_bt rfl _ _ _ 64 23 5 _ rfl B2 Try.underlying23 Try.size23) rfl ⟨by first | (rw [HV.out]; rfl) | rw [HV.out], hb⟩
     · have HV := Lib.hid (pwV_0 hc hr hz)
       have HP := Lib.hid (fun W => l01PowMod_any n f k m W hpr lf lm (by omega) hr2)
       rw [hc]
       clear hc hr
       have hz0 : (deg m < 0) = False := by simp; omega
       go_upto_region 4 with (fail)
       go_upto_region 6 with (first | (go_at_call 89; refine (l01In_any _ _ _ _).mono ?_; rintro e wS ⟨rfl, rfl⟩; rw [show decide ((0 : Int) ≤ (k : Int) ∧ (k : Int) ≤ 1000000000000) = true by simp; omega]))
       go_upto_region 8 with (first | (refine zla (.tmp 7) B1 Try.underlying23 Try.size23 ?_) | (go_at_call 88; refine (l01Deg_any _ _).mono ?_; rintro e W3 ⟨rfl, hW3⟩; replace B0 := B0.zw hW3; replace B1 := B1.zw hW3; replace B2 := B2.zw hW3; replace hb := (hb).trans (hW3.mono (hb).size)))
       have lt_B0 := B0.lt
       have lt_B1 := B1.lt
       have lt_B2 := B2.lt
       go_wp2_with (first | rw [← z64] | (refine zla (.tmp 5) B0 Try.underlying23 Try.size23 ?_) | (refine zla (.tmp 7) B1 Try.underlying23 Try.size23 ?_) | (go_at_call 96; refine (HP.out _).mono ?_; rintro e W4 ⟨rfl, hW4⟩; replace B0 := B0.zw hW4; replace B1 := B1.zw hW4; replace B2 := B2.zw hW4; replace hb := (hb).trans (hW4.mono (hb).size)) | (refine zsr (.tmp 8) (.tmp 34) (pmP n f k m) B2 Try.size23 ?_; try simp only [Act.put]; go_wp2_with fail))
       obtain ⟨W5, hwo, hzQ⟩ : ∃ v : World, v = (W4.setRow (w.heap.size + 1 + 1) (zb 64 (pmP n f k m))) ∧ Blk v (w.heap.size) 64 23 (f) ∧ Blk v (w.heap.size + 1) 64 23 (m) ∧ Blk v (w.heap.size + 1 + 1) 64 23 (pmP n f k m) ∧ Below w.heap.size w v := ⟨_, rfl, (B0.rowOther (by omega)), (B1.rowOther (by omega)), (B2.row (pmP n f k m)), (zr hb (by omega) _)⟩
       rw [← hwo]
       clear hwo B0 B1 B2 hb
       obtain ⟨B0, B1, B2, hb⟩ := hzQ
       try simp only [Act.put, pA, pB, pC]
       refine bodyPost_ret (results_bt rfl _ _ _ 64 23 5 _ rfl B2 Try.underlying23 Try.size23) rfl ⟨by first | (rw [HV.out]; rfl) | rw [HV.out], hb⟩
   · have HV := Lib.hid (pwV_2 hc hr)
     rw [hc]
     clear hc
     go_upto_region 4 with (fail)
     go_upto_region 5 with (first | (go_at_call 89; refine (l01In_any _ _ _ _).mono ?_; rintro e wS ⟨rfl, rfl⟩; rw [show decide ((0 : Int) ≤ k ∧ k ≤ 1000000000000) = false by simp; omega]))
     have lt_B0 := B0.lt
     have lt_B1 := B1.lt
     have lt_B2 := B2.lt
     go_wp2_with (first | rw [← z64] | (refine zsr (.tmp 8) (.tmp 24) (fun _ => 0) B2 Try.size23 ?_; try simp only [Act.put]; go_wp2_with fail))
     obtain ⟨W3, hwo, hzQ⟩ : ∃ v : World, v = (W2.setRow (w.heap.size + 1 + 1) (zb 64 (fun _ => 0))) ∧ Blk v (w.heap.size) 64 23 (f) ∧ Blk v (w.heap.size + 1) 64 23 (m) ∧ Blk v (w.heap.size + 1 + 1) 64 23 (fun _ => 0) ∧ Below w.heap.size w v := ⟨_, rfl, (B0.rowOther (by omega)), (B1.rowOther (by omega)), (B2.row (fun _ => 0)), (zr hb (by omega) _)⟩
     rw [← hwo]
     clear hwo B0 B1 B2 hb
     obtain ⟨B0, B1, B2, hb⟩ := hzQ
     try simp only [Act.put, pA, pB, pC]
     refine bodyPost_ret (results_bt rfl _ _ _ 64 23 5 _ rfl B2 Try.underlying23 Try.size23) rfl ⟨by first | (rw [HV.out]; rfl) | rw [HV.out], hb⟩
 · have HV := Lib.hid (pwV_1 (k := k) hc)
   rw [hc]
   clear hc
   go_upto_region 3 with (fail)
   have lt_B0 := B0.lt
   have lt_B1 := B1.lt
   have lt_B2 := B2.lt
   go_wp2_with (first | rw [← z64] | (refine zsr (.tmp 8) (.tmp 18) (fun _ => 0) B2 Try.size23 ?_; try simp only [Act.put]; go_wp2_with fail))
   obtain ⟨W3, hwo, hzQ⟩ : ∃ v : World, v = (W2.setRow (w.heap.size + 1 + 1) (zb 64 (fun _ => 0))) ∧ Blk v (w.heap.size) 64 23 (f) ∧ Blk v (w.heap.size + 1) 64 23 (m) ∧ Blk v (w.heap.size + 1 + 1) 64 23 (fun _ => 0) ∧ Below w.heap.size w v := ⟨_, rfl, (B0.rowOther (by omega)), (B1.rowOther (by omega)), (B2.row (fun _ => 0)), (zr hb (by omega) _)⟩
   rw [← hwo]
   clear hwo B0 B1 B2 hb
   obtain ⟨B0, B1, B2, hb⟩ := hzQ
   try simp only [Act.put, pA, pB, pC]
   refine bodyPost_ret (results_bt rfl _ _ _ 64 23 5 _ rfl B2 Try.underlying23 Try.size23) rfl ⟨by first | (rw [HV.out]; rfl) | rw [HV.out], hb⟩
end Go.Proofs.Ytoncepgcfifgbaa
end
section
namespace Go.Proofs.Ytoncepgcfifgbaa
open Go.RowKit
set_option linter.unusedVariables false
set_option linter.unusedSimpArgs false
set_option maxRecDepth 100000 in
set_option maxHeartbeats 1600000 in
theorem FnExactPowerModulo_walk (p : Int) (f : Nat → Nat) (k : Int) (m : Nat → Nat) (hf : byte f) (hm : byte m) (w : World) :
 Calls Try.prog 5 #[.int .i64 p, .agg (zb 64 f), .int .i64 k, .agg (zb 64 m)] w fun e w' => e = .returned (.bool true) ∧ Below w.heap.size w w' := by
 go_enter Try.func5, Try.ntmps5
 go_upto_region 1 with (fail)
 obtain ⟨wo, hwo⟩ : ∃ wo : World, wo = ((w.alloc (.cells (zb 64 f) 22)).alloc (.cells (zb 64 m) 22)) := ⟨_, rfl⟩
 have bf : Blk wo (w.heap.size) 64 22 f := by subst hwo; have := ((Blk.new w 64 22 f).alloc (.cells (zb 64 m) 22)); simpa using this
 have bm : Blk wo (w.heap.size + 1) 64 22 m := by subst hwo; have := (Blk.new (w.alloc (.cells (zb 64 f) 22)) 64 22 m); simpa using this
 have hb : Below w.heap.size w wo := by subst hwo; exact (((Below.refl _ _).alloc (Nat.le_refl _) _).alloc (by simp) _)
 rw [← hwo]
 clear hwo
 refine wp_region_steps Try.mixed (by kernel_rfl) (by kernel_rfl) (fun v => by (simp only [frL, Act.put, pA, pB, pC, Nat.reduceAdd, Nat.zero_add]; exact rfl))
  (fun L v w1 => Below wo.heap.size wo w1 ∧ (L 0 = true → v 0 = (.int .i64 p)) ∧ (L 1 = true → v 1 = (.agg (zb 64 (f)))) ∧ (L 2 = true → v 2 = (.agg (zb 64 (f)))) ∧ (L 3 = true → v 3 = (.int .i64 k)) ∧ (L 4 = true → v 4 = (.agg (zb 64 (m)))) ∧ (L 5 = true → v 5 = (.agg (zb 64 (m)))) ∧ (L 6 = true → v 6 = (.tuple #[(.agg (zb 64 ((pwV p f k m).1))), (.int .i64 ((pwV p f k m).2))])) ∧ (L 7 = true → v 7 = (.tuple #[(.agg (zb 64 ((pwV p f k m).1))), (.int .i64 ((pwV p f k m).2))])) ∧ (L 8 = true → v 8 = (.agg (zb 64 ((pwV p f k m).1)))) ∧ (L 9 = true → v 9 = (.int .i64 ((pwV p f k m).2))) ∧ (L 10 = true → AF (v 10) w1 wo.heap.size 64 23) ∧ (L 11 = true → PF (v 10) w1 wo.heap.size 64 23 ((pwV p f k m).1)) ∧ (L 12 = true → v 12 = (.int .i64 ((pwV p f k m).2)))) ?_ ?_ ?_
 · intro v
   exact ⟨(Below.refl _ _).drew, (fun h => by cases h), (fun h => by cases h), (fun h => by cases h), (fun h => by cases h), (fun h => by cases h), (fun h => by cases h), (fun h => by cases h), (fun h => by cases h), (fun h => by cases h), (fun h => by cases h), (fun h => by cases h), (fun h => by cases h), (fun h => by cases h)⟩
 · refine (.cons rfl ?_ (.cons rfl ?_ (.cons rfl ?_ (.cons rfl ?_ (.cons rfl ?_ (.cons rfl ?_ (.cons rfl ?_ (.cons rfl ?_ (.cons rfl ?_ (.cons rfl ?_ (.cons rfl ?_ (.cons rfl ?_ (.cons rfl ?_ (.nil _))))))))))))))
   all_goals intro L v w1 hd hn ⟨hS1, h0, h1, h2, h3, h4, h5, h6, h7, h8, h9, h10, h11, h12⟩ K hK
   · go_wp2_with fail
     exact hK _ (.int .i64 p) _ (by simp only [Act.put, pA, pB, pC ]) ⟨hS1, fun _ => rfl, h1, h2, h3, h4, h5, h6, h7, h8, h9, h10, h11, h12⟩
   · refine wp_load_blk 22 _ rfl _ rfl 64 22 _ (bf.zw hS1) _ Try.underlying22 Try.size22 ?_
     exact hK _ _ _ rfl ⟨hS1, h0, fun _ => rfl, h2, h3, h4, h5, h6, h7, h8, h9, h10, h11, h12⟩
   · have e1 := h1 (zdq hd 1 rfl)
     go_wp2_with (go_at_call 26; refine (toPoly_any _ hf _).mono ?_; rintro e w1y ⟨rfl, hy⟩)
     exact hK _ (.agg (zb 64 (f))) _ (by simp only [Act.put, pA, pB, pC, e1]) ⟨hS1.trans (hy.mono hS1.size), h0, h1, fun _ => rfl, h3, h4, h5, h6, h7, h8, h9, fun h => (h10 h).below hy, fun h => (h11 h).below hy, h12⟩
   · go_wp2_with fail
     exact hK _ (.int .i64 k) _ (by simp only [Act.put, pA, pB, pC ]) ⟨hS1, h0, h1, h2, fun _ => rfl, h4, h5, h6, h7, h8, h9, h10, h11, h12⟩
   · refine wp_load_blk 22 _ rfl _ rfl 64 22 _ (bm.zw hS1) _ Try.underlying22 Try.size22 ?_
     exact hK _ _ _ rfl ⟨hS1, h0, h1, h2, h3, fun _ => rfl, h5, h6, h7, h8, h9, h10, h11, h12⟩
   · have e4 := h4 (zdq hd 4 rfl)
     go_wp2_with (go_at_call 26; refine (toPoly_any _ hm _).mono ?_; rintro e w1y ⟨rfl, hy⟩)
     exact hK _ (.agg (zb 64 (m))) _ (by simp only [Act.put, pA, pB, pC, e4]) ⟨hS1.trans (hy.mono hS1.size), h0, h1, h2, h3, h4, fun _ => rfl, h6, h7, h8, h9, fun h => (h10 h).below hy, fun h => (h11 h).below hy, h12⟩
   · have e0 := h0 (zdq hd 0 rfl)
     have e2 := h2 (zdq hd 2 rfl)
     have e3 := h3 (zdq hd 3 rfl)
     have e5 := h5 (zdq hd 5 rfl)
     go_wp2_with (go_at_call 31; refine (spec_PowerModulo_any p f k m hf hm _).mono ?_; rintro e w1y ⟨rfl, hy⟩)
     exact hK _ (.tuple #[(.agg (zb 64 ((pwV p f k m).1))), (.int .i64 ((pwV p f k m).2))]) _ (by simp only [Act.put, pA, pB, pC, e0, e2, e3, e5]) ⟨hS1.trans (hy.mono hS1.size), h0, h1, h2, h3, h4, h5, fun _ => rfl, h7, h8, h9, fun h => (h10 h).below hy, fun h => (h11 h).below hy, h12⟩
   · have e6 := h6 (zdq hd 6 rfl)
     go_wp2_with fail
     exact hK _ (.tuple #[(.agg (zb 64 ((pwV p f k m).1))), (.int .i64 ((pwV p f k m).2))]) _ (by simp only [Act.put, pA, pB, pC, e6]) ⟨hS1, h0, h1, h2, h3, h4, h5, h6, fun _ => rfl, h8, h9, h10, h11, h12⟩
   · have e7 := h7 (zdq hd 7 rfl)
     go_wp2_with fail
     exact hK _ (.agg (zb 64 ((pwV p f k m).1))) _ (by simp only [Act.put, pA, pB, pC, e7]) ⟨hS1, h0, h1, h2, h3, h4, h5, h6, h7, fun _ => rfl, h9, h10, h11, h12⟩
   · have e7 := h7 (zdq hd 7 rfl)
     go_wp2_with fail
     exact hK _ (.int .i64 ((pwV p f k m).2)) _ (by simp only [Act.put, pA, pB, pC, e7]) ⟨hS1, h0, h1, h2, h3, h4, h5, h6, h7, h8, fun _ => rfl, h10, h11, h12⟩
   · go_wp2_with fail
     rw [← z64]
     exact hK _ (.pointer (some ⟨w1.heap.size, 0, none⟩)) _ (by simp only [Act.put, pA, pB, pC ]) ⟨hS1.alloc hS1.size _, h0, h1, h2, h3, h4, h5, h6, h7, h8, h9, fun _ => (PF.new w1 64 23 _ hS1.size).af, fun h => absurd rfl (hn 11 _ rfl h ⟨10, .data⟩ (by simp) rfl), h12⟩
   · have e8 := h8 (zdq hd 8 rfl)
     obtain ⟨gz, b, ea, hN, hk⟩ := (h10 (zdq hd 10 rfl)).out
     refine zsb 23 _ _ rfl b 64 ((pwV p f k m).1) ea e8 23 gz hk Try.size23 ?_
     exact hK _ undef _ rfl ⟨zr hS1 hN _, h0, h1, h2, h3, h4, h5, h6, h7, h8, h9, fun h => (h10 h).row hk, fun _ => by rw [show updV v 11 undef 10 = v 10 from rfl, ea]; exact PF.row hk hN _, h12⟩
   · have e9 := h9 (zdq hd 9 rfl)
     go_wp2_with fail
     exact hK _ (.int .i64 ((pwV p f k m).2)) _ (by simp only [Act.put, pA, pB, pC, e9]) ⟨hS1, h0, h1, h2, h3, h4, h5, h6, h7, h8, h9, h10, h11, fun _ => rfl⟩
 · intro L v w1 hL ⟨hS1, h0, h1, h2, h3, h4, h5, h6, h7, h8, h9, h10, h11, h12⟩
   have e0 := h0 (hL 0 (by decide))
   have e1 := h1 (hL 1 (by decide))
   have e2 := h2 (hL 2 (by decide))
   have e3 := h3 (hL 3 (by decide))
   have e4 := h4 (hL 4 (by decide))
   have e5 := h5 (hL 5 (by decide))
   have e6 := h6 (hL 6 (by decide))
   have e7 := h7 (hL 7 (by decide))
   have e8 := h8 (hL 8 (by decide))
   have e9 := h9 (hL 9 (by decide))
   obtain ⟨b10, e10, hN10, hb10⟩ := (h11 (hL 11 (by decide))).out
   have e12 := h12 (hL 12 (by decide))
   clear hL h0 h1 h2 h3 h4 h5 h6 h7 h8 h9 h10 h11 h12
   simp only [Exit.then, e0, e1, e2, e3, e4, e5, e6, e7, e8, e9, e10, e12]
   clear e0 e1 e2 e3 e4 e5 e6 e7 e8 e9 e10 e12
   go_upto_region 2 with (fail)
   replace bf := bf.zw hS1
   replace bm := bm.zw hS1
   refine wp_region_steps Try.mixed (by kernel_rfl) (by kernel_rfl) (fun v => by (simp only [frL, Act.put, pA, pB, pC, Nat.reduceAdd, Nat.zero_add]; exact rfl))
    (fun L v w2 => Below w1.heap.size w1 w2 ∧ (L 0 = true → v 0 = (.int .i64 p)) ∧ (L 1 = true → v 1 = (.agg (zb 64 (f)))) ∧ (L 2 = true → v 2 = (.agg (zb 64 (f)))) ∧ (L 3 = true → v 3 = (.int .i64 k)) ∧ (L 4 = true → v 4 = (.agg (zb 64 (m)))) ∧ (L 5 = true → v 5 = (.agg (zb 64 (m)))) ∧ (L 6 = true → v 6 = (.tuple #[(.agg (zb 64 ((pwV p f k m).1))), (.int .i64 ((pwV p f k m).2))])) ∧ (L 7 = true → v 7 = (.tuple #[(.agg (zb 64 ((pwV p f k m).1))), (.int .i64 ((pwV p f k m).2))])) ∧ (L 8 = true → v 8 = (.agg (zb 64 ((pwV p f k m).1)))) ∧ (L 9 = true → v 9 = (.int .i64 ((pwV p f k m).2))) ∧ (L 10 = true → AF (v 10) w2 w1.heap.size 64 23) ∧ (L 11 = true → PF (v 10) w2 w1.heap.size 64 23 ((pwV p f k m).1)) ∧ (L 12 = true → v 12 = (.int .i64 ((pwV p f k m).2)))) ?_ ?_ ?_
   · intro v
     exact ⟨(Below.refl _ _).drew, (fun h => by cases h), (fun h => by cases h), (fun h => by cases h), (fun h => by cases h), (fun h => by cases h), (fun h => by cases h), (fun h => by cases h), (fun h => by cases h), (fun h => by cases h), (fun h => by cases h), (fun h => by cases h), (fun h => by cases h), (fun h => by cases h)⟩
   · refine (.cons rfl ?_ (.cons rfl ?_ (.cons rfl ?_ (.cons rfl ?_ (.cons rfl ?_ (.cons rfl ?_ (.cons rfl ?_ (.cons rfl ?_ (.cons rfl ?_ (.cons rfl ?_ (.cons rfl ?_ (.cons rfl ?_ (.cons rfl ?_ (.nil _))))))))))))))
     all_goals intro L v w2 hd hn ⟨hS2, h0, h1, h2, h3, h4, h5, h6, h7, h8, h9, h10, h11, h12⟩ K hK
     · go_wp2_with fail
       exact hK _ (.int .i64 p) _ (by simp only [Act.put, pA, pB, pC ]) ⟨hS2, fun _ => rfl, h1, h2, h3, h4, h5, h6, h7, h8, h9, h10, h11, h12⟩
     · refine wp_load_blk 22 _ rfl _ rfl 64 22 _ (bf.zw hS2) _ Try.underlying22 Try.size22 ?_
       exact hK _ _ _ rfl ⟨hS2, h0, fun _ => rfl, h2, h3, h4, h5, h6, h7, h8, h9, h10, h11, h12⟩
     · have e1 := h1 (zdq hd 1 rfl)
       go_wp2_with (go_at_call 26; refine (toPoly_any _ hf _).mono ?_; rintro e w2y ⟨rfl, hy⟩)
       exact hK _ (.agg (zb 64 (f))) _ (by simp only [Act.put, pA, pB, pC, e1]) ⟨hS2.trans (hy.mono hS2.size), h0, h1, fun _ => rfl, h3, h4, h5, h6, h7, h8, h9, fun h => (h10 h).below hy, fun h => (h11 h).below hy, h12⟩
     · go_wp2_with fail
       exact hK _ (.int .i64 k) _ (by simp only [Act.put, pA, pB, pC ]) ⟨hS2, h0, h1, h2, fun _ => rfl, h4, h5, h6, h7, h8, h9, h10, h11, h12⟩
     · refine wp_load_blk 22 _ rfl _ rfl 64 22 _ (bm.zw hS2) _ Try.underlying22 Try.size22 ?_
       exact hK _ _ _ rfl ⟨hS2, h0, h1, h2, h3, fun _ => rfl, h5, h6, h7, h8, h9, h10, h11, h12⟩
     · have e4 := h4 (zdq hd 4 rfl)
       go_wp2_with (go_at_call 26; refine (toPoly_any _ hm _).mono ?_; rintro e w2y ⟨rfl, hy⟩)
       exact hK _ (.agg (zb 64 (m))) _ (by simp only [Act.put, pA, pB, pC, e4]) ⟨hS2.trans (hy.mono hS2.size), h0, h1, h2, h3, h4, fun _ => rfl, h6, h7, h8, h9, fun h => (h10 h).below hy, fun h => (h11 h).below hy, h12⟩
     · have e0 := h0 (zdq hd 0 rfl)
       have e2 := h2 (zdq hd 2 rfl)
       have e3 := h3 (zdq hd 3 rfl)
       have e5 := h5 (zdq hd 5 rfl)
       go_wp2_with (go_at_call 32; refine (impl_PowerModulo_any p f k m hf hm _).mono ?_; rintro e w2y ⟨rfl, hy⟩)
       exact hK _ (.tuple #[(.agg (zb 64 ((pwV p f k m).1))), (.int .i64 ((pwV p f k m).2))]) _ (by simp only [Act.put, pA, pB, pC, e0, e2, e3, e5]) ⟨hS2.trans (hy.mono hS2.size), h0, h1, h2, h3, h4, h5, fun _ => rfl, h7, h8, h9, fun h => (h10 h).below hy, fun h => (h11 h).below hy, h12⟩
     · have e6 := h6 (zdq hd 6 rfl)
       go_wp2_with fail
       exact hK _ (.tuple #[(.agg (zb 64 ((pwV p f k m).1))), (.int .i64 ((pwV p f k m).2))]) _ (by simp only [Act.put, pA, pB, pC, e6]) ⟨hS2, h0, h1, h2, h3, h4, h5, h6, fun _ => rfl, h8, h9, h10, h11, h12⟩
     · have e7 := h7 (zdq hd 7 rfl)
       go_wp2_with fail
       exact hK _ (.agg (zb 64 ((pwV p f k m).1))) _ (by simp only [Act.put, pA, pB, pC, e7]) ⟨hS2, h0, h1, h2, h3, h4, h5, h6, h7, fun _ => rfl, h9, h10, h11, h12⟩
     · have e7 := h7 (zdq hd 7 rfl)
       go_wp2_with fail
       exact hK _ (.int .i64 ((pwV p f k m).2)) _ (by simp only [Act.put, pA, pB, pC, e7]) ⟨hS2, h0, h1, h2, h3, h4, h5, h6, h7, h8, fun _ => rfl, h10, h11, h12⟩
     · go_wp2_with fail
       rw [← z64]
       exact hK _ (.pointer (some ⟨w2.heap.size, 0, none⟩)) _ (by simp only [Act.put, pA, pB, pC ]) ⟨hS2.alloc hS2.size _, h0, h1, h2, h3, h4, h5, h6, h7, h8, h9, fun _ => (PF.new w2 64 23 _ hS2.size).af, fun h => absurd rfl (hn 11 _ rfl h ⟨10, .data⟩ (by simp) rfl), h12⟩
     · have e8 := h8 (zdq hd 8 rfl)
       obtain ⟨gz, b, ea, hN, hk⟩ := (h10 (zdq hd 10 rfl)).out
       refine zsb 23 _ _ rfl b 64 ((pwV p f k m).1) ea e8 23 gz hk Try.size23 ?_
       exact hK _ undef _ rfl ⟨zr hS2 hN _, h0, h1, h2, h3, h4, h5, h6, h7, h8, h9, fun h => (h10 h).row hk, fun _ => by rw [show updV v 11 undef 10 = v 10 from rfl, ea]; exact PF.row hk hN _, h12⟩
     · have e9 := h9 (zdq hd 9 rfl)
       go_wp2_with fail
       exact hK _ (.int .i64 ((pwV p f k m).2)) _ (by simp only [Act.put, pA, pB, pC, e9]) ⟨hS2, h0, h1, h2, h3, h4, h5, h6, h7, h8, h9, h10, h11, fun _ => rfl⟩
   · intro L v w2 hL ⟨hS2, h0, h1, h2, h3, h4, h5, h6, h7, h8, h9, h10, h11, h12⟩
     have e0 := h0 (hL 0 (by decide))
     have e1 := h1 (hL 1 (by decide))
     have e2 := h2 (hL 2 (by decide))
     have e3 := h3 (hL 3 (by decide))
     have e4 := h4 (hL 4 (by decide))
     have e5 := h5 (hL 5 (by decide))
     have e6 := h6 (hL 6 (by decide))
     have e7 := h7 (hL 7 (by decide))
     have e8 := h8 (hL 8 (by decide))
     have e9 := h9 (hL 9 (by decide))
     obtain ⟨q10, e10, hM10, hq10⟩ := (h11 (hL 11 (by decide))).out
     have e12 := h12 (hL 12 (by decide))
     clear hL h0 h1 h2 h3 h4 h5 h6 h7 h8 h9 h10 h11 h12
     simp only [Exit.then, e0, e1, e2, e3, e4, e5, e6, e7, e8, e9, e10, e12]
     clear e0 e1 e2 e3 e4 e5 e6 e7 e8 e9 e10 e12
     replace hb10 := hb10.zw hS2
     have ha : Below w2.heap.size w2 w2 := Below.refl _ _
     have hne : (((pwV p f k m).2) != ((pwV p f k m).2)) = false := by simp
     go_wp2_with (first | refine zlb rfl 23 _ rfl _ rfl 64 23 _ (hq10.below (by assumption) hq10.lt) 5 Try.underlying23 Try.size23 ?_ | refine zlb rfl 23 _ rfl _ rfl 64 23 _ (hb10.below (by assumption) hb10.lt) 5 Try.underlying23 Try.size23 ?_ | (go_at_call 28; refine (acc (eqPoly_same _ _ (fun _ _ => rfl) _) (by assumption)).mono ?_; rintro e w3 ⟨rfl, h3, ha⟩))
     go_ret
     exact ⟨rfl, hb.trans ((hS1.trans ((hS2.trans (ha.mono hS2.size)).mono hS1.size)).mono hb.size)⟩
end Go.Proofs.Ytoncepgcfifgbaa
end
