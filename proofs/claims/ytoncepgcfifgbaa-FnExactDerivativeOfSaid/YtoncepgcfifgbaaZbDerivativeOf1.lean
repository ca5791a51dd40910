/-
  What the rows of this claim rest on: arrays of bytes, walks of the functions, plain mathematics.
-/
import Derived.Test.YtoncepgcfifgbaaZb7
import Derived.Test.YtoncepgcfifgbaaRows
import Derived.Great.BuildSlice
import Derived.WalkKit
import Derived.WalkSpells
import Derived.WalkLawsBesides
import Derived.Lib.Hide
import Derived.Laws.Rows
import Derived.Laws.CopyOwn
import Derived.Deep.QuietTactic
import Derived.Deep.WholeRow
import Derived.Deep.Draws
import Derived.Deep.MidRow
import Derived.Deep.CutRange
import Derived.Deep.DeepCutAuto
import Derived.Deep.RegionHeld3
import Derived.BigQuiet
import Derived.BigRegion
import Derived.Laws.Tables
import Derived.Laws.StructEq
import Derived.ScopeJumps
import Derived.Deep.CutBlock
import Derived.OwnWalk
import Derived.RangeFuncNested
import Derived.RangeFuncBound
import Derived.RangeFuncCalls
import Derived.RangeFuncLeaves
import Derived.Shelf.Abstract
import Derived.Shelf.RegionOpen
import Derived.OwnWalkIn
import Derived.TacticsInMore
import Derived.LoopNIn
import Derived.LoopIn
import Derived.Maps.OwnOps
import Derived.DeepKeys4
import Derived.Carry
import Derived.Test.YtoncepgcfifgbaaProg
section
namespace Go.Proofs.Ytoncepgcfifgbaa
open Go.RowKit
set_option linter.unusedVariables false
/-- the derivative's coefficients -/
def dvN (p : Nat) (f : Nat → Nat) : Nat → Nat := fun i => if i < 63 then (i + 1) % p * f (i + 1) % p else 0
def dvV (p : Int) (f : Nat → Nat) : (Nat → Nat) × Int := if codeL p [f] = 0 then (dvN p.toNat f, 0) else (fun _ => 0, 1)
set_option maxRecDepth 100000 in
set_option maxHeartbeats 1600000 in
theorem spec_DerivativeOf_any (p : Int) (f : Nat → Nat) (hf : byte f) (w : World) :
 Calls Try.prog 25 #[.int .i64 p, .agg (zb 64 f)] w fun e w' => e = .returned (.tuple #[.agg (zb 64 (dvV p f).1), .int .i64 (dvV p f).2]) ∧ Below w.heap.size w w' := by
 go_enter Try.func25, Try.ntmps25
 go_upto_region 1 with (fail)
 obtain ⟨wo, hwo⟩ : ∃ wo : World, wo = ((w.alloc (.cells (zb 64 f) 23)).alloc (.cells (zb 64 fun _ => 0) 23)) := ⟨_, rfl⟩
 have b0 : Blk wo (w.heap.size) 64 23 f := by subst hwo; have := ((Blk.new w 64 23 f).alloc (.cells (zb 64 fun _ => 0) 23)); simpa using this
 have b1 : Blk wo (w.heap.size + 1) 64 23 (fun _ => 0) := by subst hwo; have := (Blk.new (w.alloc (.cells (zb 64 f) 23)) 64 23 (fun _ => 0)); simpa using this
 have hb : Below w.heap.size w wo := by subst hwo; exact (((Below.refl _ _).alloc (Nat.le_refl _) _).alloc (by simp) _)
 rw [← z64, ← hwo]
 clear hwo
 go_upto_region 2 with (first | refine zlb rfl 23 _ rfl _ rfl 64 23 _ (b0) 5 Try.underlying23 Try.size23 ?_ | (refine wpList_build_polys rfl 33 _ [f] rfl 23 rfl Try.underlying33 Try.elem23 (by simp) (by simp) rfl ?_; intro wa hwa hps hba; clear hwa) | (go_at_call 85; refine (l01Code_any p [f] (by simp [hf]) _ _ hps (by simp)).mono ?_; rintro e wb ⟨rfl, hbb⟩))
 have hB : Below wo.heap.size wo wb := hba.trans (hbb.mono hba.size)
 replace b0 := b0.zw hB
 replace b1 := b1.zw hB
 replace hb := hb.trans (hB.mono hb.size)
 clear hB hba hbb hps
 rcases codeL_two p [f] with hc | hc
 · obtain ⟨n, hn, n2, n7⟩ := okP_nat (codeL_zero hc).1
   subst hn
   have lf := lt_of_code hc (f := f) (by simp)
   have HV := Lib.hid (show dvV (n : Int) f = (dvN n f, 0) from if_pos hc)
   have HF := Lib.hid lf; clear lf
   rw [hc]
   clear hc
   go_upto_region 5 with (first | refine wpList_store_new rfl 23 _ _ rfl _ 23 64 (fun _ => 0) rfl (by exact congrArg Value.agg z64.symm) rfl Try.size23 ?_)
   obtain ⟨wq, hwq⟩ : ∃ wq : World, wq = wb.alloc (.cells (zb 64 fun _ => 0) 23) := ⟨_, rfl⟩
   obtain ⟨B, hB⟩ : ∃ B : Nat, B = wb.heap.size := ⟨_, rfl⟩
   have bq := Blk.new wb 64 23 (fun _ => 0)
   have hq := zal wb (.cells (zb 64 fun _ => 0) 23)
   have hBw : w.heap.size + 1 + 1 ≤ B := by have := b1.lt; omega
   rw [← hwq, ← hB] at bq
   rw [← hwq] at hq
   replace b0 := b0.zw hq
   replace b1 := b1.zw hq
   replace hb := hb.trans (hq.mono hb.size)
   rw [← hwq, ← hB]
   clear hq hwq hB
   go_wp2_with fail
   go_loopw [8] (fun i wr => ∃ k : Nat, 1 ≤ k ∧ k ≤ 64 ∧ i = .int .i64 (k : Int) ∧ Below w.heap.size w wr ∧ Blk wr w.heap.size 64 23 f ∧ Blk wr (w.heap.size + 1) 64 23 (fun _ => 0) ∧ Blk wr B 64 23 (fun i => if i < k - 1 then dvN n f i else 0)) (fun i _ => 64 - (intOf i).toNat)
   case atStart => exact ⟨1, by omega, by omega, rfl, hb, b0, b1, bq.congr (by simp)⟩
   case round =>
    clear hb b0 b1 bq
    obtain ⟨k, hk1, hk, rfl, hb, h0, h1, h2⟩ := hrel
    by_cases hlt : k < 64
    · obtain ⟨j, rfl⟩ : ∃ j, k = j + 1 := ⟨k - 1, by omega⟩
      have c1 := h0.cell (i := j + 1) (by omega)
      have z1 := h2.frozen j
      have c2 := h2.cell (i := j) (by omega)
      have e1 : ((j + 1 : Nat) : Int) = (j : Int) + 1 := by push_cast; rfl
      rw [e1]
      have b1 : f (j + 1) < n := HF.out (j + 1) hlt
      have m0 : 0 ≤ ((j : Int) + 1) % (n : Int) := Int.emod_nonneg _ (by omega)
      have m1 : ((j : Int) + 1) % (n : Int) < (n : Int) := Int.emod_lt_of_pos _ (by omega)
      have hmul : ((j : Int) + 1) % (n : Int) * (f (j + 1) : Int) ≤ 36 ∧ 0 ≤ ((j : Int) + 1) % (n : Int) * (f (j + 1) : Int) := by
       have := small_nat_mul n7 (Nat.mod_lt (j + 1) (show 0 < n by omega)) b1
       have e : (((j + 1) % n : Nat) : Int) = ((j : Int) + 1) % (n : Int) := by push_cast; rfl
       rwa [e] at this
      obtain ⟨m2, m3⟩ := hmul
      have m4 : 0 ≤ ((j : Int) + 1) % (n : Int) * (f (j + 1) : Int) % (n : Int) := Int.emod_nonneg _ (by omega)
      have m5 : ((j : Int) + 1) % (n : Int) * (f (j + 1) : Int) % (n : Int) < (n : Int) := Int.emod_lt_of_pos _ (by omega)
      have HE := Lib.hid e1; clear e1
      go_wp2_with fail
      go_region
      go_wp2_with fail
      go_roundw
      case rel =>
       refine ⟨j + 1 + 1, by omega, by omega, by rw [show ((j + 1 + 1 : Nat) : Int) = (j : Int) + 1 + 1 by omega], (hb.setCell (by simp; omega) _).drew, ?_, ?_, ?_⟩
       · exact (h0.setOther (by simp; omega)).drew
       · exact (h1.setOther (by simp; omega)).drew
       · refine ((h2.set (v := dvN n f j) ?_).congr (fun i _ => ?_)).drew
         · unfold dvN; rw [if_pos (by omega)]; push_cast; rfl
         · have := upd_lt (a := dvN n f) (b := fun _ => 0) (k := j) (v := dvN n f j) rfl i
           simpa using this
      case measure => simp [intOf] <;> omega
    · have e : k = 64 := by omega
      subst e
      go_wp2_with (first | refine zlb rfl 23 _ rfl _ rfl 64 23 _ (h2) 5 Try.underlying23 Try.size23 ?_ | refine wpList_store_blk rfl 23 _ _ rfl _ 64 (_) rfl rfl 23 _ (h1) Try.size23 ?_)
      refine bodyPost_ret (results_bt rfl _ _ _ 64 23 5 _ rfl (h1.row _) Try.underlying23 Try.size23) rfl ⟨?_, below_setRow hb (by omega) _⟩
      rw [HV.out]
      simp only
      rw [zbc (g := dvN n f) (f := fun i => if i < 64 - 1 then dvN n f i else 0)]
      · rfl
      · intro i hi
        by_cases h63 : i < 63
        · exact if_pos h63
        · rw [if_neg h63]; unfold dvN; rw [if_neg h63]
 · have HV := Lib.hid (show dvV p f = (fun _ => 0, 1) from if_neg (by rw [hc]; decide))
   rw [hc]
   clear hc
   go_wp2_with (first | refine wpList_store_blk rfl 23 _ _ rfl _ 64 (fun _ => 0) rfl (congrArg Value.agg z64.symm) 23 _ (b1) Try.size23 ?_)
   refine bodyPost_ret (results_bt rfl _ _ _ 64 23 5 _ rfl (b1.row _) Try.underlying23 Try.size23) rfl ⟨by rw [HV.out]; rfl, below_setRow hb (by omega) _⟩
end Go.Proofs.Ytoncepgcfifgbaa
end
section
namespace Go.Proofs.Ytoncepgcfifgbaa
open Go Go.RowKit
set_option linter.unusedVariables false
set_option linter.unusedSimpArgs false
attribute [local irreducible] deg dvN
theorem dvN_at {p : Nat} {f : Nat → Nat} {j : Nat} (h : j < 63) : dvN p f j = (j + 1) % p * f (j + 1) % p := by unfold dvN; rw [if_pos h]
theorem dvN_top (p : Nat) (f : Nat → Nat) : ∀ i, i < 64 → (if i < 64 - 1 then dvN p f i else 0) = dvN p f i := fun i hi => by
 by_cases h : i < 63
 · rw [if_pos (by omega)]
 · rw [if_neg (by omega)]; unfold dvN; rw [if_neg h]
set_option maxRecDepth 100000 in
set_option maxHeartbeats 1600000 in
theorem derivative_any (p : Nat) (f : Nat → Nat) (w : World) (p2 : 2 ≤ p) (n7 : p ≤ 7) (lf : ∀ k, k < 64 → f k < p) :
 Calls Try.prog 87 #[.int .i64 (p : Int), .agg (zb 64 f)] w fun e w' => e = .returned (.agg (zb 64 (dvN p f))) ∧ Below w.heap.size w w' := by
 have HF := Lib.hid lf
 have HV := Lib.hid (zbc (dvN_top p f))
 clear lf
 go_enter Try.func87, Try.ntmps87
 go_upto_region 1 with (fail)
 rw [← z64]
 obtain ⟨W1, hwo⟩ : ∃ v : World, v = ((w.alloc (.cells (zb 64 (f)) 23)).alloc (.cells (zb 64 (fun _ => 0)) 23)) := ⟨_, rfl⟩
 have B0 : Blk W1 (w.heap.size) 64 23 (f) := by subst hwo; have := ((Blk.new w 64 23 (f)).alloc (.cells (zb 64 (fun _ => 0)) 23)); simpa using this
 have B1 : Blk W1 (w.heap.size + 1) 64 23 (fun _ => 0) := by subst hwo; have := (Blk.new (w.alloc (.cells (zb 64 (f)) 23)) 64 23 (fun _ => 0)); simpa using this
 have hb : Below w.heap.size w W1 := by subst hwo; exact (((Below.refl _ _).alloc (Nat.le_refl _) _).alloc (by simp) _)
 rw [← hwo]
 clear hwo
 go_upto_region 2 with (first | rw [← z64])
 have lt_B0 := B0.lt
 have lt_B1 := B1.lt
 have lhb := hb.size
 obtain ⟨W2, hwo, hzQ⟩ : ∃ v : World, v = (W1.alloc (.cells (zb 64 (fun _ => 0)) 23)) ∧ Blk v (w.heap.size) 64 23 (f) ∧ Blk v (w.heap.size + 1) 64 23 (fun _ => 0) ∧ Blk v (W1.heap.size) 64 23 (fun _ => 0) ∧ Below w.heap.size w v := ⟨_, rfl, (B0.alloc (.cells (zb 64 (fun _ => 0)) 23)), (B1.alloc (.cells (zb 64 (fun _ => 0)) 23)), (Blk.new W1 64 23 (fun _ => 0)), (hb.alloc (by have := hb.size; simp; omega) (.cells (zb 64 (fun _ => 0)) 23))⟩
 rw [← hwo]
 clear hwo B0 B1 hb
 obtain ⟨B0, B1, B2, hb⟩ := hzQ
 obtain ⟨N1, hNN⟩ : ∃ n : Nat, n = W1.heap.size := ⟨_, rfl⟩
 rw [← hNN] at lt_B0 lt_B1 lhb B2 ⊢
 clear hNN
 have zN1_0 := lt_B0
 have zN1_1 := lt_B1
 have zN1 := lhb
 clear lt_B0 lt_B1 lhb
 try simp only [Act.put, pA, pB, pC]
 go_wp2_with fail
 go_loopw [6] (fun i wr => ∃ k : Nat, 1 ≤ k ∧ k ≤ 64 ∧ i = .int .i64 (k : Int) ∧ Below w.heap.size w wr ∧ Blk wr (w.heap.size) 64 23 f ∧ Blk wr (w.heap.size + 1) 64 23 (fun _ => 0) ∧ Blk wr (N1) 64 23 (fun i => if i < k - 1 then dvN p f i else 0)) (fun i _ => 64 - (intOf i).toNat)
 case atStart => exact ⟨1, by omega, by omega, rfl, hb, B0, B1, B2.congr (by simp)⟩
 case round =>
  clear hb B0 B1 B2
  obtain ⟨k, hk1, hk, rfl, hb, h0, h1, h2⟩ := hrel
  by_cases hlt : k < 64
  · obtain ⟨j, rfl⟩ : ∃ j, k = j + 1 := ⟨k - 1, by omega⟩
    have c1 := h0.cell (i := j + 1) (by omega)
    have z1 := h2.frozen j
    have c2 := h2.cell (i := j) (by omega)
    have e1 : ((j + 1 : Nat) : Int) = (j : Int) + 1 := by push_cast; rfl
    rw [e1]
    have b1 : f (j + 1) < p := HF.out (j + 1) hlt
    have m0 : 0 ≤ ((j : Int) + 1) % (p : Int) := Int.emod_nonneg _ (by omega)
    have m1 : ((j : Int) + 1) % (p : Int) < (p : Int) := Int.emod_lt_of_pos _ (by omega)
    have hmul : ((j : Int) + 1) % (p : Int) * (f (j + 1) : Int) ≤ 36 ∧ 0 ≤ ((j : Int) + 1) % (p : Int) * (f (j + 1) : Int) := by
     have := small_nat_mul n7 (Nat.mod_lt (j + 1) (show 0 < p by omega)) b1
     have e : (((j + 1) % p : Nat) : Int) = ((j : Int) + 1) % (p : Int) := by push_cast; rfl
     rwa [e] at this
    obtain ⟨m2, m3⟩ := hmul
    have m4 : 0 ≤ ((j : Int) + 1) % (p : Int) * (f (j + 1) : Int) % (p : Int) := Int.emod_nonneg _ (by omega)
    have m5 : ((j : Int) + 1) % (p : Int) * (f (j + 1) : Int) % (p : Int) < (p : Int) := Int.emod_lt_of_pos _ (by omega)
    have HE := Lib.hid e1; clear e1
    go_wp2_with fail
    go_region
    go_wp2_with fail
    go_roundw
    case rel =>
     refine ⟨j + 1 + 1, by omega, by omega, by rw [show ((j + 1 + 1 : Nat) : Int) = (j : Int) + 1 + 1 by omega], (hb.setCell (by simp; omega) _).drew, ?_, ?_, ?_⟩
     · exact (h0.setOther (by simp; omega)).drew
     · exact (h1.setOther (by simp; omega)).drew
     · refine ((h2.set (v := dvN p f j) ?_).congr (fun i _ => ?_)).drew
       · rw [dvN_at (by omega)]; push_cast; rfl
       · have := upd_lt (a := dvN p f) (b := fun _ => 0) (k := j) (v := dvN p f j) rfl i
         simpa using this
    case measure => simp [intOf] <;> omega
  · obtain rfl : k = 64 := by omega
    have B0 := h0
    have B1 := h1
    have B2 := h2
    clear h0 h1 h2
    go_upto_region 6 with (fail)
    have lt_B0 := B0.lt
    have lt_B1 := B1.lt
    have lt_B2 := B2.lt
    go_wp2_with (first | rw [← z64] | (refine zla (.tmp 5) B2 Try.underlying23 Try.size23 ?_) | (refine zsr (.tmp 4) (.tmp 25) (fun i => if i < 64 - 1 then dvN p f i else 0) B1 Try.size23 ?_; try simp only [Act.put]))
    obtain ⟨W3, hwo, hzQ⟩ : ∃ v : World, v = (wr.setRow (w.heap.size + 1) (zb 64 (fun i => if i < 64 - 1 then dvN p f i else 0))) ∧ Blk v (w.heap.size) 64 23 (f) ∧ Blk v (w.heap.size + 1) 64 23 (fun i => if i < 64 - 1 then dvN p f i else 0) ∧ Blk v (N1) 64 23 (fun i => if i < 64 - 1 then dvN p f i else 0) ∧ Below w.heap.size w v := ⟨_, rfl, (B0.rowOther (by omega)), (B1.row (fun i => if i < 64 - 1 then dvN p f i else 0)), (B2.rowOther (by omega)), (zr hb (by omega) _)⟩
    rw [← hwo]
    clear hwo B0 B1 B2 hb
    obtain ⟨B0, B1, B2, hb⟩ := hzQ
    try simp only [Act.put, pA, pB, pC]
    refine bodyPost_ret (zrb rfl _ _ _ 64 23 5 _ rfl B1 Try.underlying23 Try.size23) rfl ⟨by rw [HV.out], hb⟩
set_option maxRecDepth 100000 in
set_option maxHeartbeats 1600000 in
theorem impl_DerivativeOf_any (p : Int) (f : Nat → Nat) (hf : byte f) (w : World) :
 Calls Try.prog 27 #[.int .i64 p, .agg (zb 64 f)] w fun e w' => e = .returned (.tuple #[.agg (zb 64 (dvV p f).1), .int .i64 (dvV p f).2]) ∧ Below w.heap.size w w' := by
 go_enter Try.func27, Try.ntmps27
 go_upto_region 1 with (fail)
 rw [← z64]
 obtain ⟨W1, hwo⟩ : ∃ v : World, v = ((w.alloc (.cells (zb 64 (f)) 23)).alloc (.cells (zb 64 (fun _ => 0)) 23)) := ⟨_, rfl⟩
 have B0 : Blk W1 (w.heap.size) 64 23 (f) := by subst hwo; have := ((Blk.new w 64 23 (f)).alloc (.cells (zb 64 (fun _ => 0)) 23)); simpa using this
 have B1 : Blk W1 (w.heap.size + 1) 64 23 (fun _ => 0) := by subst hwo; have := (Blk.new (w.alloc (.cells (zb 64 (f)) 23)) 64 23 (fun _ => 0)); simpa using this
 have hb : Below w.heap.size w W1 := by subst hwo; exact (((Below.refl _ _).alloc (Nat.le_refl _) _).alloc (by simp) _)
 rw [← hwo]
 clear hwo
 go_upto_region 2 with (first | (refine zla (.tmp 3) B0 Try.underlying23 Try.size23 ?_) | (refine wpList_build_polys rfl 33 _ [f] rfl 23 rfl Try.underlying33 Try.elem23 (by simp) (by simp) rfl ?_; intro wa hwa hps hba; clear hwa) | (go_at_call 86; refine (checkPolys_any p [f] (by simp [hf]) _ _ hps (by simp)).mono ?_; rintro e W2 ⟨rfl, hbb⟩))
 have hBB : Below W1.heap.size W1 W2 := hba.trans (hbb.mono hba.size)
 replace B0 := B0.zw hBB
 replace B1 := B1.zw hBB
 replace hb := hb.trans (hBB.mono hb.size)
 clear hBB hba hbb hps
 rcases codeL_two p [f] with hc | hc
 · obtain ⟨n, hn, n2, n7⟩ := okP_nat (codeL_zero hc).1
   subst hn
   have HD := Lib.hid (fun W => derivative_any n f W n2 n7 (lt_of_code hc (f := f) (by simp)))
   have HV := Lib.hid (show dvV (n : Int) f = (dvN n f, 0) from if_pos hc)
   rw [hc]
   clear hc
   go_upto_region 4 with (fail)
   have lt_B0 := B0.lt
   have lt_B1 := B1.lt
   go_wp2_with (first | rw [← z64] | (refine zla (.tmp 3) B0 Try.underlying23 Try.size23 ?_) | (go_at_call 87; refine (HD.out _).mono ?_; rintro e W3 ⟨rfl, hW3⟩; replace B0 := B0.zw hW3; replace B1 := B1.zw hW3; replace hb := (hb).trans (hW3.mono (hb).size)) | (refine zsr (.tmp 4) (.tmp 17) (dvN n f) B1 Try.size23 ?_; try simp only [Act.put]; go_wp2_with fail))
   obtain ⟨W4, hwo, hzQ⟩ : ∃ v : World, v = (W3.setRow (w.heap.size + 1) (zb 64 (dvN n f))) ∧ Blk v (w.heap.size) 64 23 (f) ∧ Blk v (w.heap.size + 1) 64 23 (dvN n f) ∧ Below w.heap.size w v := ⟨_, rfl, (B0.rowOther (by omega)), (B1.row (dvN n f)), (zr hb (by omega) _)⟩
   rw [← hwo]
   clear hwo B0 B1 hb
   obtain ⟨B0, B1, hb⟩ := hzQ
   try simp only [Act.put, pA, pB, pC]
   refine bodyPost_ret (results_bt rfl _ _ _ 64 23 5 _ rfl B1 Try.underlying23 Try.size23) rfl ⟨by rw [HV.out]; rfl, hb⟩
 · have HV := Lib.hid (show dvV p f = (fun _ => 0, 1) from if_neg (by rw [hc]; decide))
   rw [hc]
   clear hc
   go_upto_region 3 with (fail)
   have lt_B0 := B0.lt
   have lt_B1 := B1.lt
   go_wp2_with (first | rw [← z64] | (refine zsr (.tmp 4) (.tmp 13) (fun _ => 0) B1 Try.size23 ?_; try simp only [Act.put]; go_wp2_with fail))
   obtain ⟨W3, hwo, hzQ⟩ : ∃ v : World, v = (W2.setRow (w.heap.size + 1) (zb 64 (fun _ => 0))) ∧ Blk v (w.heap.size) 64 23 (f) ∧ Blk v (w.heap.size + 1) 64 23 (fun _ => 0) ∧ Below w.heap.size w v := ⟨_, rfl, (B0.rowOther (by omega)), (B1.row (fun _ => 0)), (zr hb (by omega) _)⟩
   rw [← hwo]
   clear hwo B0 B1 hb
   obtain ⟨B0, B1, hb⟩ := hzQ
   try simp only [Act.put, pA, pB, pC]
   refine bodyPost_ret (results_bt rfl _ _ _ 64 23 5 _ rfl B1 Try.underlying23 Try.size23) rfl ⟨by rw [HV.out]; rfl, hb⟩
end Go.Proofs.Ytoncepgcfifgbaa
end
section
namespace Go.Proofs.Ytoncepgcfifgbaa
open Go.RowKit
set_option linter.unusedVariables false
set_option linter.unusedSimpArgs false
set_option maxRecDepth 100000 in
set_option maxHeartbeats 1600000 in
theorem FnExactDerivativeOf_walk (p : Int) (f : Nat → Nat) (hf : byte f) (w : World) :
 Calls Try.prog 3 #[.int .i64 p, .agg (zb 64 f)] w fun e w' => e = .returned (.bool true) ∧ Below w.heap.size w w' := by
 go_enter Try.func3, Try.ntmps3
 go_upto_region 1 with (fail)
 obtain ⟨wo, hwo⟩ : ∃ wo : World, wo = (w.alloc (.cells (zb 64 f) 22)) := ⟨_, rfl⟩
 have bf : Blk wo (w.heap.size) 64 22 f := by subst hwo; have := (Blk.new w 64 22 f); simpa using this
 have hb : Below w.heap.size w wo := by subst hwo; exact ((Below.refl _ _).alloc (Nat.le_refl _) _)
 rw [← hwo]
 clear hwo
 have ha : Below wo.heap.size wo wo := Below.refl _ _
 go_upto_region 2 with (first | refine zlb rfl 22 _ rfl _ rfl 64 22 _ (bf.below (by assumption) bf.lt) 5 Try.underlying22 Try.size22 ?_ | (go_at_call 26; refine (acc (toPoly_any _ hf _) (by assumption)).mono ?_; rintro e w1z ⟨rfl, hz, ha⟩) | (go_at_call 25; refine (acc (spec_DerivativeOf_any p f hf _) (by assumption)).mono ?_; rintro e w1z ⟨rfl, hz, ha⟩) | refine wpList_store_new rfl 23 _ _ rfl _ 23 64 ((dvV p f).1) rfl rfl rfl Try.size23 ?_)
 have hb7 := Blk.new w1z 64 23 ((dvV p f).1)
 have hS1 := ha.trans ((zal w1z (.cells (zb 64 ((dvV p f).1)) 23)).mono ha.size)
 clear ha
 obtain ⟨w1, hwx⟩ : ∃ v : World, v = w1z.alloc (.cells (zb 64 ((dvV p f).1)) 23) := ⟨_, rfl⟩
 rw [← hwx] at hb7 hS1 ⊢
 clear hwx
 obtain ⟨b7, hbi⟩ : ∃ b : Nat, b = w1z.heap.size := ⟨_, rfl⟩
 rw [← hbi] at hb7 ⊢
 clear hbi
 replace bf := bf.zw hS1
 have ha : Below w1.heap.size w1 w1 := Below.refl _ _
 go_upto_region 3 with (first | refine zlb rfl 22 _ rfl _ rfl 64 22 _ (bf.below (by assumption) bf.lt) 5 Try.underlying22 Try.size22 ?_ | (go_at_call 26; refine (acc (toPoly_any _ hf _) (by assumption)).mono ?_; rintro e w2z ⟨rfl, hz, ha⟩) | (go_at_call 27; refine (acc (impl_DerivativeOf_any p f hf _) (by assumption)).mono ?_; rintro e w2z ⟨rfl, hz, ha⟩) | refine wpList_store_new rfl 23 _ _ rfl _ 23 64 ((dvV p f).1) rfl rfl rfl Try.size23 ?_)
 have hq7 := Blk.new w2z 64 23 ((dvV p f).1)
 have hS2 := ha.trans ((zal w2z (.cells (zb 64 ((dvV p f).1)) 23)).mono ha.size)
 clear ha
 obtain ⟨w2, hwx⟩ : ∃ v : World, v = w2z.alloc (.cells (zb 64 ((dvV p f).1)) 23) := ⟨_, rfl⟩
 rw [← hwx] at hq7 hS2 ⊢
 clear hwx
 obtain ⟨q7, hbi⟩ : ∃ b : Nat, b = w2z.heap.size := ⟨_, rfl⟩
 rw [← hbi] at hq7 ⊢
 clear hbi
 replace hb7 := hb7.zw hS2
 have ha : Below w2.heap.size w2 w2 := Below.refl _ _
 have hne : (((dvV p f).2) != ((dvV p f).2)) = false := by simp
 go_wp2_with (first | refine zlb rfl 23 _ rfl _ rfl 64 23 _ (hq7.below (by assumption) hq7.lt) 5 Try.underlying23 Try.size23 ?_ | refine zlb rfl 23 _ rfl _ rfl 64 23 _ (hb7.below (by assumption) hb7.lt) 5 Try.underlying23 Try.size23 ?_ | (go_at_call 28; refine (acc (eqPoly_same _ _ (fun _ _ => rfl) _) (by assumption)).mono ?_; rintro e w3 ⟨rfl, h3, ha⟩))
 go_ret
 exact ⟨rfl, hb.trans ((hS1.trans ((hS2.trans (ha.mono hS2.size)).mono hS1.size)).mono hb.size)⟩
end Go.Proofs.Ytoncepgcfifgbaa
end
