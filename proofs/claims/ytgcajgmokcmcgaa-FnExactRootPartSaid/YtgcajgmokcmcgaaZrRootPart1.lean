/-
  What the rows of this claim rest on: arrays of bytes, walks of the functions, plain mathematics.
-/
import Derived.Test.YtgcajgmokcmcgaaZr1
import Derived.Test.YtgcajgmokcmcgaaRows
import Derived.Great.BuildSlice
import Derived.WalkKit
import Derived.WalkSpells
import Derived.WalkLawsBesides
import Derived.Lib.Hide
import Derived.Laws.Rows
import Derived.Laws.CopyOwn
import Derived.Deep.QuietTactic
import Derived.Deep.WholeRow
import Derived.Deep.Draws
import Derived.Deep.MidRow
import Derived.Deep.CutRange
import Derived.Deep.DeepCutAuto
import Derived.Deep.RegionHeld3
import Derived.BigQuiet
import Derived.BigRegion
import Derived.Laws.StructEq
import Derived.ScopeJumps
import Derived.Laws.Tables
import Derived.Deep.CutBlock
import Derived.OwnWalk
import Derived.RangeFuncNested
import Derived.RangeFuncBound
import Derived.RangeFuncCalls
import Derived.RangeFuncLeaves
import Derived.Shelf.Abstract
import Derived.Shelf.RegionOpen
import Derived.OwnWalkIn
import Derived.TacticsInMore
import Derived.LoopNIn
import Derived.LoopIn
import Derived.Maps.OwnOps
import Derived.DeepKeys4
import Derived.Carry
import Derived.Test.YtgcajgmokcmcgaaProg
section
namespace Go.Proofs.Ytgcajgmokcmcgaa
open Go.RowKit
set_option linter.unusedVariables false
set_option maxRecDepth 100000 in
set_option maxHeartbeats 400000 in
theorem eqPoly_same (f g : Nat → Nat) (hfg : ∀ i, i < 64 → f i = g i) (w : World) : Calls Try.prog 35 #[.agg (zb 64 f), .agg (zb 64 g)] w fun e w' => e = .returned (.bool true) ∧ Below w.heap.size w w' := by
 rw [zbc (fun i hi => (hfg i hi).symm)]
 go_enter Try.func35, Try.ntmps35
 go_wp2_with fail
 clear hfg
 go_loopw [5] (fun i wr => ∃ k : Nat, k ≤ 64 ∧ i = .int .i64 (k : Int) ∧ Below w.heap.size w wr ∧ Blk wr w.heap.size 64 26 f ∧ Blk wr (w.heap.size + 1) 64 26 f) (fun i _ => 64 - (intOf i).toNat)
 case atStart =>
  refine ⟨0, by omega, rfl, ((Below.refl _ _).alloc (Nat.le_refl _) _).alloc (by simp) _, (Blk.new w _ _ _).alloc _, ?_⟩
  have := Blk.new (w.alloc (.cells (zb 64 f) 26)) 64 26 f; simpa using this
 case round =>
  obtain ⟨k, hk, rfl, hb, h0, h1⟩ := hrel
  by_cases hlt : k < 64
  · have c4 := h0.cell hlt
    have c5 := h1.cell hlt
    have hk0 : (0 : Int) ≤ (k : Int) := by omega
    have hk1 : (k : Int) < 64 := by omega
    have hne : ((f k : Int) != (f k : Int)) = false := by simp
    go_wp2_with fail
    go_quiet (fail)
    go_wp2_with fail
    go_roundw
    case rel => exact ⟨k + 1, by omega, by go_num, below_drewN' hb _, h0.drewN _, h1.drewN _⟩
    case measure => simp [intOf]; omega
  · go_wp2_with fail
    go_ret
    exact ⟨rfl, hb⟩

end Go.Proofs.Ytgcajgmokcmcgaa
end
section
namespace Go.Proofs.Ytgcajgmokcmcgaa
open Go Go.RowKit
set_option linter.unusedVariables false
set_option linter.unusedSimpArgs false
/-- both answers of RootPart -/
def rpV (p : Int) (D : Nat → Nat) : (Nat → Nat) × Int := if sqC p D = 0 then (rpP p.toNat D (deg D / 2).toNat, 0) else (fun _ => 0, sqC p D)
theorem rpV_c {p : Int} {D : Nat → Nat} {c : Int} (h : sqC p D = c) (h0 : c ≠ 0) : rpV p D = (fun _ => 0, c) := by unfold rpV; rw [h, if_neg h0]
theorem rpV_0 {n g : Nat} {D : Nat → Nat} (h : sqC (n : Int) D = 0) (h2 : deg D = ((2 * g : Nat) : Int)) : rpV (n : Int) D = (rpP n D g, 0) := by
 unfold rpV; rw [if_pos h, h2, Int.toNat_natCast, show (((2 * g : Nat) : Int) / 2).toNat = g by omega]
attribute [local irreducible] deg icl rt sqC rpP rpV
set_option maxRecDepth 100000 in
set_option maxHeartbeats 3200000 in
theorem impl_RootPart_any (p : Int) (D : Nat → Nat) (hD : byte D) (w : World) :
 Calls Try.prog 39 #[.int .i64 p, .agg (zb 64 D)] w fun e w' => e = .returned (.tuple #[.agg (zb 64 (rpV p D).1), .int .i64 (rpV p D).2]) ∧ Below w.heap.size w w' := by
 go_enter Try.func39, Try.ntmps39
 go_upto_region 1 with (fail)
 rw [← z64]
 obtain ⟨W1, hwo⟩ : ∃ v : World, v = ((w.alloc (.cells (zb 64 (D)) 26)).alloc (.cells (zb 64 (fun _ => 0)) 26)) := ⟨_, rfl⟩
 have B0 : Blk W1 (w.heap.size) 64 26 (D) := by subst hwo; have := ((Blk.new w 64 26 (D)).alloc (.cells (zb 64 (fun _ => 0)) 26)); simpa using this
 have B1 : Blk W1 (w.heap.size + 1) 64 26 (fun _ => 0) := by subst hwo; have := (Blk.new (w.alloc (.cells (zb 64 (D)) 26)) 64 26 (fun _ => 0)); simpa using this
 have hb : Below w.heap.size w W1 := by subst hwo; exact (((Below.refl _ _).alloc (Nat.le_refl _) _).alloc (by simp) _)
 rw [← hwo]
 clear hwo
 rcases sqC_split p D with ⟨c, hc, hc0⟩ | ⟨hc, n, g, rfl, hpr, lD, hd, hg⟩
 · have HV := Lib.hid (rpV_c hc hc0)
   have HC := Lib.hid (show ∀ W, Calls Try.prog _ _ W _ from fun W => hc ▸ checkSquareCase_any p D hD W)
   have hcb : (c != 0) = true := by simp [hc0]
   clear hc hc0
   go_upto_region 3 with (first | (refine zla (.tmp 3) B0 Try.underlying26 Try.size26 ?_) | (go_at_call 83; refine (HC.out _).mono ?_; rintro e W2 ⟨rfl, hW2⟩; replace B0 := B0.zw hW2; replace B1 := B1.zw hW2; replace hb := (hb).trans (hW2.mono (hb).size)))
   have lt_B0 := B0.lt
   have lt_B1 := B1.lt
   go_wp2_with (first | rw [← z64] | (refine zsr (.tmp 4) (.tmp 12) (fun _ => 0) B1 Try.size26 ?_; try simp only [Act.put]; go_wp2_with fail))
   obtain ⟨W3, hwo, hzQ⟩ : ∃ v : World, v = (W2.setRow (w.heap.size + 1) (zb 64 (fun _ => 0))) ∧ Blk v (w.heap.size) 64 26 (D) ∧ Blk v (w.heap.size + 1) 64 26 (fun _ => 0) ∧ Below w.heap.size w v := ⟨_, rfl, (B0.rowOther (by omega)), (B1.row (fun _ => 0)), (zr hb (by omega) _)⟩
   rw [← hwo]
   clear hwo B0 B1 hb
   obtain ⟨B0, B1, hb⟩ := hzQ
   try simp only [Act.put, pA, pB, pC]
   refine bodyPost_ret (results_bt rfl _ _ _ 64 26 5 _ rfl B1 Try.underlying26 Try.size26) rfl ⟨by rw [HV.out]; rfl, hb⟩
 · have HV := Lib.hid (rpV_0 hc hd)
   have HC := Lib.hid (show ∀ W, Calls Try.prog _ _ W _ from fun W => hc ▸ checkSquareCase_any (n : Int) D hD W)
   have HRP := Lib.hid (fun W => rootPart_any n g D W hpr lD hd hg)
   clear hc lD hd
   go_upto_region 4 with (first | (refine zla (.tmp 3) B0 Try.underlying26 Try.size26 ?_) | (go_at_call 83; refine (HC.out _).mono ?_; rintro e W2 ⟨rfl, hW2⟩; replace B0 := B0.zw hW2; replace B1 := B1.zw hW2; replace hb := (hb).trans (hW2.mono (hb).size)))
   have lt_B0 := B0.lt
   have lt_B1 := B1.lt
   go_wp2_with (first | rw [← z64] | (refine zla (.tmp 3) B0 Try.underlying26 Try.size26 ?_) | (go_at_call 84; refine (HRP.out _).mono ?_; rintro e W3 ⟨rfl, hW3⟩; replace B0 := B0.zw hW3; replace B1 := B1.zw hW3; replace hb := (hb).trans (hW3.mono (hb).size)) | (refine zsr (.tmp 4) (.tmp 16) (rpP n D g) B1 Try.size26 ?_; try simp only [Act.put]; go_wp2_with fail))
   obtain ⟨W4, hwo, hzQ⟩ : ∃ v : World, v = (W3.setRow (w.heap.size + 1) (zb 64 (rpP n D g))) ∧ Blk v (w.heap.size) 64 26 (D) ∧ Blk v (w.heap.size + 1) 64 26 (rpP n D g) ∧ Below w.heap.size w v := ⟨_, rfl, (B0.rowOther (by omega)), (B1.row (rpP n D g)), (zr hb (by omega) _)⟩
   rw [← hwo]
   clear hwo B0 B1 hb
   obtain ⟨B0, B1, hb⟩ := hzQ
   try simp only [Act.put, pA, pB, pC]
   refine bodyPost_ret (results_bt rfl _ _ _ 64 26 5 _ rfl B1 Try.underlying26 Try.size26) rfl ⟨by rw [HV.out]; rfl, hb⟩
end Go.Proofs.Ytgcajgmokcmcgaa
end
section
namespace Go.Proofs.Ytgcajgmokcmcgaa
open Go Go.RowKit
set_option linter.unusedVariables false
set_option linter.unusedSimpArgs false
attribute [local irreducible] deg icl rt rtl sqC rpJ ilZ
attribute [local irreducible] rpP rpV
set_option maxRecDepth 100000 in
set_option maxHeartbeats 3200000 in
theorem spec_RootPart_any (p : Int) (D : Nat → Nat) (hD : byte D) (w : World) :
 Calls Try.prog 38 #[.int .i64 p, .agg (zb 64 D)] w fun e w' => e = .returned (.tuple #[.agg (zb 64 (rpV p D).1), .int .i64 (rpV p D).2]) ∧ Below w.heap.size w w' := by
 go_enter Try.func38, Try.ntmps38
 go_upto_region 1 with (fail)
 rw [← z64]
 obtain ⟨W1, hwo⟩ : ∃ v : World, v = ((w.alloc (.cells (zb 64 (D)) 26)).alloc (.cells (zb 64 (fun _ => 0)) 26)) := ⟨_, rfl⟩
 have B0 : Blk W1 (w.heap.size) 64 26 (D) := by subst hwo; have := ((Blk.new w 64 26 (D)).alloc (.cells (zb 64 (fun _ => 0)) 26)); simpa using this
 have B1 : Blk W1 (w.heap.size + 1) 64 26 (fun _ => 0) := by subst hwo; have := (Blk.new (w.alloc (.cells (zb 64 (D)) 26)) 64 26 (fun _ => 0)); simpa using this
 have hb : Below w.heap.size w W1 := by subst hwo; exact (((Below.refl _ _).alloc (Nat.le_refl _) _).alloc (by simp) _)
 rw [← hwo]
 clear hwo
 rcases sqC_split p D with ⟨c, hc, hc0⟩ | ⟨hc, n, g, rfl, hpr, lD, hd, hg⟩
 · have HV := Lib.hid (rpV_c hc hc0)
   have HC := Lib.hid (show ∀ W, Calls Try.prog _ _ W _ from fun W => hc ▸ l10Case_any p D hD W)
   have hcb : (c != 0) = true := by simp [hc0]
   clear hc hc0
   go_upto_region 3 with (first | (refine zla (.tmp 3) B0 Try.underlying26 Try.size26 ?_) | (go_at_call 81; refine (HC.out _).mono ?_; rintro e W2 ⟨rfl, hW2⟩; replace B0 := B0.zw hW2; replace B1 := B1.zw hW2; replace hb := (hb).trans (hW2.mono (hb).size)))
   have lt_B0 := B0.lt
   have lt_B1 := B1.lt
   go_wp2_with (first | rw [← z64] | (refine zsr (.tmp 4) (.tmp 12) (fun _ => 0) B1 Try.size26 ?_; try simp only [Act.put]; go_wp2_with fail))
   obtain ⟨W3, hwo, hzQ⟩ : ∃ v : World, v = (W2.setRow (w.heap.size + 1) (zb 64 (fun _ => 0))) ∧ Blk v (w.heap.size) 64 26 (D) ∧ Blk v (w.heap.size + 1) 64 26 (fun _ => 0) ∧ Below w.heap.size w v := ⟨_, rfl, (B0.rowOther (by omega)), (B1.row (fun _ => 0)), (zr hb (by omega) _)⟩
   rw [← hwo]
   clear hwo B0 B1 hb
   obtain ⟨B0, B1, hb⟩ := hzQ
   try simp only [Act.put, pA, pB, pC]
   refine bodyPost_ret (results_bt rfl _ _ _ 64 26 5 _ rfl B1 Try.underlying26 Try.size26) rfl ⟨by rw [HV.out]; rfl, hb⟩
 · have HV := Lib.hid (rpV_0 hc hd)
   have HC := Lib.hid (show ∀ W, Calls Try.prog _ _ W _ from fun W => hc ▸ l10Case_any (n : Int) D hD W)
   have HRP := Lib.hid (fun W => l10Part_any n g D W hpr lD hd hg)
   clear hc lD hd
   go_upto_region 4 with (first | (refine zla (.tmp 3) B0 Try.underlying26 Try.size26 ?_) | (go_at_call 81; refine (HC.out _).mono ?_; rintro e W2 ⟨rfl, hW2⟩; replace B0 := B0.zw hW2; replace B1 := B1.zw hW2; replace hb := (hb).trans (hW2.mono (hb).size)))
   have lt_B0 := B0.lt
   have lt_B1 := B1.lt
   go_wp2_with (first | rw [← z64] | (refine zla (.tmp 3) B0 Try.underlying26 Try.size26 ?_) | (go_at_call 82; refine (HRP.out _).mono ?_; rintro e W3 ⟨rfl, hW3⟩; replace B0 := B0.zw hW3; replace B1 := B1.zw hW3; replace hb := (hb).trans (hW3.mono (hb).size)) | (refine zsr (.tmp 4) (.tmp 16) (rpP n D g) B1 Try.size26 ?_; try simp only [Act.put]; go_wp2_with fail))
   obtain ⟨W4, hwo, hzQ⟩ : ∃ v : World, v = (W3.setRow (w.heap.size + 1) (zb 64 (rpP n D g))) ∧ Blk v (w.heap.size) 64 26 (D) ∧ Blk v (w.heap.size + 1) 64 26 (rpP n D g) ∧ Below w.heap.size w v := ⟨_, rfl, (B0.rowOther (by omega)), (B1.row (rpP n D g)), (zr hb (by omega) _)⟩
   rw [← hwo]
   clear hwo B0 B1 hb
   obtain ⟨B0, B1, hb⟩ := hzQ
   try simp only [Act.put, pA, pB, pC]
   refine bodyPost_ret (results_bt rfl _ _ _ 64 26 5 _ rfl B1 Try.underlying26 Try.size26) rfl ⟨by rw [HV.out]; rfl, hb⟩
end Go.Proofs.Ytgcajgmokcmcgaa
end
section
namespace Go.Proofs.Ytgcajgmokcmcgaa
open Go Go.RowKit
set_option linter.unusedVariables false
set_option linter.unusedSimpArgs false
set_option maxRecDepth 100000 in
set_option maxHeartbeats 1600000 in
theorem FnExactRootPart_walk (p : Int) (d : Nat → Nat) (hd : byte d) (w : World) :
 Calls Try.prog 8 #[.int .i64 p, .agg (zb 64 d)] w fun e w' => e = .returned (.bool true) ∧ Below w.heap.size w w' := by
 go_enter Try.func8, Try.ntmps8
 go_upto_region 1 with (fail)
 obtain ⟨W1, hwo⟩ : ∃ v : World, v = (w.alloc (.cells (zb 64 (d)) 22)) := ⟨_, rfl⟩
 have B0 : Blk W1 (w.heap.size) 64 22 (d) := by subst hwo; have := (Blk.new w 64 22 (d)); simpa using this
 have hb : Below w.heap.size w W1 := by subst hwo; exact ((Below.refl _ _).alloc (Nat.le_refl _) _)
 rw [← hwo]
 clear hwo
 have hne1 : (((rpV p d).2) != ((rpV p d).2)) = false := by simp
 have lt_B0 := B0.lt
 go_upto_region 2 with (first | rw [← z64] | (refine zla (.tmp 3) B0 Try.underlying22 Try.size22 ?_) | (go_at_call 19; refine (toPoly_any d hd _).mono ?_; rintro e W2 ⟨rfl, hW2⟩; replace B0 := B0.zw hW2; replace hb := (hb).trans (hW2.mono (hb).size)) | (go_at_call 38; refine (spec_RootPart_any p d hd _).mono ?_; rintro e W3 ⟨rfl, hW3⟩; replace B0 := B0.zw hW3; replace hb := (hb).trans (hW3.mono (hb).size)) | (refine wpList_store_blk rfl 26 (.tmp 5) (.tmp 14) rfl _ 64 ((rpV p d).1) rfl rfl 26 _ ((Blk.new W3 64 26 (fun _ => 0))) Try.size26 ?_; try simp only [Act.put]; go_upto_region 2 with (fail)))
 have lt_B0 := B0.lt
 have lhb := hb.size
 obtain ⟨W4, hwo, hzQ⟩ : ∃ v : World, v = ((W3.alloc (.cells (zb 64 (fun _ => 0)) 26)).setRow (W3.heap.size) (zb 64 ((rpV p d).1))) ∧ Blk v (w.heap.size) 64 22 (d) ∧ Blk v (W3.heap.size) 64 26 ((rpV p d).1) ∧ Below w.heap.size w v := ⟨_, rfl, ((B0.alloc (.cells (zb 64 (fun _ => 0)) 26)).rowOther (by omega)), ((Blk.new W3 64 26 (fun _ => 0)).row ((rpV p d).1)), (zr (hb.alloc (by have := hb.size; simp; omega) (.cells (zb 64 (fun _ => 0)) 26)) (by omega) _)⟩
 rw [← hwo]
 clear hwo B0 hb
 obtain ⟨B0, B1, hb⟩ := hzQ
 obtain ⟨N1, hNN⟩ : ∃ n : Nat, n = W3.heap.size := ⟨_, rfl⟩
 rw [← hNN] at lt_B0 lhb B1 ⊢
 clear hNN
 have zN1_0 := lt_B0
 have zN1 := lhb
 clear lt_B0 lhb
 try simp only [Act.put, pA, pB, pC]
 have lt_B0 := B0.lt
 have lt_B1 := B1.lt
 go_upto_region 3 with (first | rw [← z64] | (refine zla (.tmp 3) B0 Try.underlying22 Try.size22 ?_) | (go_at_call 19; refine (toPoly_any d hd _).mono ?_; rintro e W5 ⟨rfl, hW5⟩; replace B0 := B0.zw hW5; replace B1 := B1.zw hW5; replace hb := (hb).trans (hW5.mono (hb).size)) | (go_at_call 39; refine (impl_RootPart_any p d hd _).mono ?_; rintro e W6 ⟨rfl, hW6⟩; replace B0 := B0.zw hW6; replace B1 := B1.zw hW6; replace hb := (hb).trans (hW6.mono (hb).size)) | (refine wpList_store_blk rfl 26 (.tmp 7) (.tmp 21) rfl _ 64 ((rpV p d).1) rfl rfl 26 _ ((Blk.new W6 64 26 (fun _ => 0))) Try.size26 ?_; try simp only [Act.put]; go_upto_region 3 with (fail)))
 have lt_B0 := B0.lt
 have lt_B1 := B1.lt
 have lhb := hb.size
 obtain ⟨W7, hwo, hzQ⟩ : ∃ v : World, v = ((W6.alloc (.cells (zb 64 (fun _ => 0)) 26)).setRow (W6.heap.size) (zb 64 ((rpV p d).1))) ∧ Blk v (w.heap.size) 64 22 (d) ∧ Blk v (N1) 64 26 ((rpV p d).1) ∧ Blk v (W6.heap.size) 64 26 ((rpV p d).1) ∧ Below w.heap.size w v := ⟨_, rfl, ((B0.alloc (.cells (zb 64 (fun _ => 0)) 26)).rowOther (by omega)), ((B1.alloc (.cells (zb 64 (fun _ => 0)) 26)).rowOther (by omega)), ((Blk.new W6 64 26 (fun _ => 0)).row ((rpV p d).1)), (zr (hb.alloc (by have := hb.size; simp; omega) (.cells (zb 64 (fun _ => 0)) 26)) (by omega) _)⟩
 rw [← hwo]
 clear hwo B0 B1 hb
 obtain ⟨B0, B1, B2, hb⟩ := hzQ
 obtain ⟨N2, hNN⟩ : ∃ n : Nat, n = W6.heap.size := ⟨_, rfl⟩
 rw [← hNN] at lt_B0 lt_B1 lhb B2 ⊢
 clear hNN
 have zN2_0 := lt_B0
 have zN2_1 := lt_B1
 have zN2 := lhb
 clear lt_B0 lt_B1 lhb
 try simp only [Act.put, pA, pB, pC]
 go_wp2_with (first | (refine zla (.tmp 7) B2 Try.underlying26 Try.size26 ?_) | (refine zla (.tmp 5) B1 Try.underlying26 Try.size26 ?_) | (go_at_call 35; refine (eqPoly_same _ _ (fun _ _ => rfl) _).mono ?_; rintro e W8 ⟨rfl, hW8⟩; replace B0 := B0.zw hW8; replace B1 := B1.zw hW8; replace B2 := B2.zw hW8; replace hb := (hb).trans (hW8.mono (hb).size)))
 go_ret
 exact ⟨rfl, hb⟩
end Go.Proofs.Ytgcajgmokcmcgaa
end
