/-
  Walks: derivatives.
-/
import Derived.Test.YtkaaffccklkafaaW8
namespace Go.Proofs.Ytkaaffccklkafaa
open Go.RowKit
set_option linter.unusedVariables false
/-- the derivative's coefficients -/
def dvN (p : Nat) (f : Nat → Nat) : Nat → Nat := fun i => if i < 63 then (i + 1) % p * f (i + 1) % p else 0
def dvV (p : Int) (f : Nat → Nat) : (Nat → Nat) × Int := if codeL p [f] = 0 then (dvN p.toNat f, 0) else (fun _ => 0, 1)
theorem small_nat_mul {a b p : Nat} (hp : p ≤ 7) (ha : a < p) (hb : b < p) : (a : Int) * (b : Int) ≤ 36 ∧ 0 ≤ (a : Int) * (b : Int) := by
  refine ⟨?_, Int.mul_nonneg (by omega) (by omega)⟩
  have : a * b ≤ 6 * 6 := Nat.mul_le_mul (by omega) (by omega)
  have h : ((a * b : Nat) : Int) ≤ 36 := by omega
  rwa [Int.natCast_mul] at h
set_option maxRecDepth 100000 in
set_option maxHeartbeats 1600000 in
theorem impl_DerivativeOf_any (p : Int) (f : Nat → Nat) (hf : byte f) (w : World) :
    Calls Try.prog 63 #[.int .i64 p, .agg (bcells 64 f)] w fun e w' => e = .returned (.tuple #[.agg (bcells 64 (dvV p f).1), .int .i64 (dvV p f).2]) ∧ Below w.heap.size w w' := by
  go_enter Try.func63, Try.ntmps63
  go_upto_region 1 with (fail)
  obtain ⟨wo, hwo⟩ : ∃ wo : World, wo = ((w.alloc (.cells (bcells 64 f) 25)).alloc (.cells (bcells 64 fun _ => 0) 25)) := ⟨_, rfl⟩
  have b0 : Blk wo (w.heap.size) 64 25 f := by subst hwo; have := ((Blk.new w 64 25 f).alloc (.cells (bcells 64 fun _ => 0) 25)); simpa using this
  have b1 : Blk wo (w.heap.size + 1) 64 25 (fun _ => 0) := by subst hwo; have := (Blk.new (w.alloc (.cells (bcells 64 f) 25)) 64 25 (fun _ => 0)); simpa using this
  have hb : Below w.heap.size w wo := by subst hwo; exact (((Below.refl _ _).alloc (Nat.le_refl _) _).alloc (by simp) _)
  rw [← zero64, ← hwo]
  clear hwo
  go_upto_region 2 with (first | refine wpList_load_blk rfl 25 _ rfl _ rfl 64 25 _ (b0) 5 Try.underlying25 Try.size25 ?_ | (refine wpList_build_polys rfl 57 _ [f] rfl 25 rfl Try.underlying57 Try.elem25 (by simp) (by simp) rfl ?_; intro wa hwa hps hba; clear hwa) | (go_at_call 142; refine (checkPolys_any p [f] (by simp [hf]) _ _ hps (by simp)).mono ?_; rintro e wb ⟨rfl, hbb⟩))
  have hB : Below wo.heap.size wo wb := hba.trans (hbb.mono hba.size)
  replace b0 := b0.below hB b0.lt
  replace b1 := b1.below hB b1.lt
  replace hb := hb.trans (hB.mono hb.size)
  clear hB hba hbb hps
  rcases codeL_two p [f] with hc | hc
  · obtain ⟨n, hn, n2, n7⟩ := okP_nat (codeL_zero hc).1
    subst hn
    have lf := lt_of_code hc (f := f) (by simp)
    have HV := Lib.hid (show dvV (n : Int) f = (dvN n f, 0) from if_pos hc)
    have HF := Lib.hid lf; clear lf
    rw [hc]
    clear hc
    go_upto_region 5 with (fail)
    rw [← zero64]
    obtain ⟨wq, hwq⟩ : ∃ wq : World, wq = wb.alloc (.cells (bcells 64 fun _ => 0) 25) := ⟨_, rfl⟩
    obtain ⟨B, hB⟩ : ∃ B : Nat, B = wb.heap.size := ⟨_, rfl⟩
    have bq := Blk.new wb 64 25 (fun _ => 0)
    have hq := below_alloc' wb (.cells (bcells 64 fun _ => 0) 25)
    have hBw : w.heap.size + 1 + 1 ≤ B := by have := b1.lt; omega
    rw [← hwq, ← hB] at bq
    rw [← hwq] at hq
    replace b0 := b0.below hq b0.lt
    replace b1 := b1.below hq b1.lt
    replace hb := hb.trans (hq.mono hb.size)
    rw [← hwq, ← hB]
    clear hq hwq hB
    go_wp2_with fail
    go_loopw [8] (fun i wr => ∃ k : Nat, 1 ≤ k ∧ k ≤ 64 ∧ i = .int .i64 (k : Int) ∧ Below w.heap.size w wr ∧ Blk wr w.heap.size 64 25 f ∧ Blk wr (w.heap.size + 1) 64 25 (fun _ => 0) ∧ Blk wr B 64 25 (fun i => if i < k - 1 then dvN n f i else 0)) (fun i _ => 64 - (intOf i).toNat)
    case atStart => exact ⟨1, by omega, by omega, rfl, hb, b0, b1, bq.congr (by simp)⟩
    case round =>
      clear hb b0 b1 bq
      obtain ⟨k, hk1, hk, rfl, hb, h0, h1, h2⟩ := hrel
      by_cases hlt : k < 64
      · obtain ⟨j, rfl⟩ : ∃ j, k = j + 1 := ⟨k - 1, by omega⟩
        have c1 := h0.cell (i := j + 1) (by omega)
        have z1 := h2.frozen j
        have c2 := h2.cell (i := j) (by omega)
        have e1 : ((j + 1 : Nat) : Int) = (j : Int) + 1 := by push_cast; rfl
        rw [e1]
        have b1 : f (j + 1) < n := HF.out (j + 1) hlt
        have m0 : 0 ≤ ((j : Int) + 1) % (n : Int) := Int.emod_nonneg _ (by omega)
        have m1 : ((j : Int) + 1) % (n : Int) < (n : Int) := Int.emod_lt_of_pos _ (by omega)
        have hmul : ((j : Int) + 1) % (n : Int) * (f (j + 1) : Int) ≤ 36 ∧ 0 ≤ ((j : Int) + 1) % (n : Int) * (f (j + 1) : Int) := by
          have := small_nat_mul n7 (Nat.mod_lt (j + 1) (show 0 < n by omega)) b1
          have e : (((j + 1) % n : Nat) : Int) = ((j : Int) + 1) % (n : Int) := by push_cast; rfl
          rwa [e] at this
        obtain ⟨m2, m3⟩ := hmul
        have m4 : 0 ≤ ((j : Int) + 1) % (n : Int) * (f (j + 1) : Int) % (n : Int) := Int.emod_nonneg _ (by omega)
        have m5 : ((j : Int) + 1) % (n : Int) * (f (j + 1) : Int) % (n : Int) < (n : Int) := Int.emod_lt_of_pos _ (by omega)
        have HE := Lib.hid e1; clear e1
        go_wp2_with fail
        go_region
        go_wp2_with fail
        go_roundw
        case rel =>
          refine ⟨j + 1 + 1, by omega, by omega, by rw [show ((j + 1 + 1 : Nat) : Int) = (j : Int) + 1 + 1 by omega], (hb.setCell (by simp; omega) _).drew, ?_, ?_, ?_⟩
          · exact (h0.setOther (by simp; omega)).drew
          · exact (h1.setOther (by simp; omega)).drew
          · refine ((h2.set (v := dvN n f j) ?_).congr (fun i _ => ?_)).drew
            · unfold dvN; rw [if_pos (by omega)]; push_cast; rfl
            · have := upd_lt (a := dvN n f) (b := fun _ => 0) (k := j) (v := dvN n f j) rfl i
              simpa using this
        case measure => simp [intOf] <;> omega
      · have e : k = 64 := by omega
        subst e
        go_wp2_with (first | refine wpList_load_blk rfl 25 _ rfl _ rfl 64 25 _ (h2) 5 Try.underlying25 Try.size25 ?_ | refine wpList_store_blk rfl 25 _ _ rfl _ 64 (_) rfl rfl 25 _ (h1) Try.size25 ?_)
        refine bodyPost_ret (results_bt rfl _ _ _ 64 25 5 _ rfl (h1.row _) Try.underlying25 Try.size25) rfl ⟨?_, below_setRow hb (by omega) _⟩
        rw [HV.out]
        simp only
        rw [bcells_congr (g := dvN n f) (f := fun i => if i < 64 - 1 then dvN n f i else 0)]
        · rfl
        · intro i hi
          by_cases h63 : i < 63
          · exact if_pos h63
          · rw [if_neg h63]; unfold dvN; rw [if_neg h63]
  · have HV := Lib.hid (show dvV p f = (fun _ => 0, 1) from if_neg (by rw [hc]; decide))
    rw [hc]
    clear hc
    go_wp2_with (first | refine wpList_store_blk rfl 25 _ _ rfl _ 64 (fun _ => 0) rfl (congrArg Value.agg zero64.symm) 25 _ (b1) Try.size25 ?_)
    refine bodyPost_ret (results_bt rfl _ _ _ 64 25 5 _ rfl (b1.row _) Try.underlying25 Try.size25) rfl ⟨by rw [HV.out]; rfl, below_setRow hb (by omega) _⟩
set_option maxRecDepth 100000 in
set_option maxHeartbeats 1600000 in
theorem spec_DerivativeOf_any (p : Int) (f : Nat → Nat) (hf : byte f) (w : World) :
    Calls Try.prog 64 #[.int .i64 p, .agg (bcells 64 f)] w fun e w' => e = .returned (.tuple #[.agg (bcells 64 (dvV p f).1), .int .i64 (dvV p f).2]) ∧ Below w.heap.size w w' := by
  go_enter Try.func64, Try.ntmps64
  go_upto_region 1 with (fail)
  obtain ⟨wo, hwo⟩ : ∃ wo : World, wo = ((w.alloc (.cells (bcells 64 f) 25)).alloc (.cells (bcells 64 fun _ => 0) 25)) := ⟨_, rfl⟩
  have b0 : Blk wo (w.heap.size) 64 25 f := by subst hwo; have := ((Blk.new w 64 25 f).alloc (.cells (bcells 64 fun _ => 0) 25)); simpa using this
  have b1 : Blk wo (w.heap.size + 1) 64 25 (fun _ => 0) := by subst hwo; have := (Blk.new (w.alloc (.cells (bcells 64 f) 25)) 64 25 (fun _ => 0)); simpa using this
  have hb : Below w.heap.size w wo := by subst hwo; exact (((Below.refl _ _).alloc (Nat.le_refl _) _).alloc (by simp) _)
  rw [← zero64, ← hwo]
  clear hwo
  go_upto_region 2 with (first | refine wpList_load_blk rfl 25 _ rfl _ rfl 64 25 _ (b0) 5 Try.underlying25 Try.size25 ?_ | (refine wpList_build_polys rfl 57 _ [f] rfl 25 rfl Try.underlying57 Try.elem25 (by simp) (by simp) rfl ?_; intro wa hwa hps hba; clear hwa) | (go_at_call 145; refine (l01Code_any p [f] (by simp [hf]) _ _ hps (by simp)).mono ?_; rintro e wb ⟨rfl, hbb⟩))
  have hB : Below wo.heap.size wo wb := hba.trans (hbb.mono hba.size)
  replace b0 := b0.below hB b0.lt
  replace b1 := b1.below hB b1.lt
  replace hb := hb.trans (hB.mono hb.size)
  clear hB hba hbb hps
  rcases codeL_two p [f] with hc | hc
  · obtain ⟨n, hn, n2, n7⟩ := okP_nat (codeL_zero hc).1
    subst hn
    have lf := lt_of_code hc (f := f) (by simp)
    have HV := Lib.hid (show dvV (n : Int) f = (dvN n f, 0) from if_pos hc)
    have HF := Lib.hid lf; clear lf
    rw [hc]
    clear hc
    go_upto_region 5 with (first | refine wpList_store_new rfl 25 _ _ rfl _ 25 64 (fun _ => 0) rfl (by exact congrArg Value.agg zero64.symm) rfl Try.size25 ?_)
    obtain ⟨wq, hwq⟩ : ∃ wq : World, wq = wb.alloc (.cells (bcells 64 fun _ => 0) 25) := ⟨_, rfl⟩
    obtain ⟨B, hB⟩ : ∃ B : Nat, B = wb.heap.size := ⟨_, rfl⟩
    have bq := Blk.new wb 64 25 (fun _ => 0)
    have hq := below_alloc' wb (.cells (bcells 64 fun _ => 0) 25)
    have hBw : w.heap.size + 1 + 1 ≤ B := by have := b1.lt; omega
    rw [← hwq, ← hB] at bq
    rw [← hwq] at hq
    replace b0 := b0.below hq b0.lt
    replace b1 := b1.below hq b1.lt
    replace hb := hb.trans (hq.mono hb.size)
    rw [← hwq, ← hB]
    clear hq hwq hB
    go_wp2_with fail
    go_loopw [8] (fun i wr => ∃ k : Nat, 1 ≤ k ∧ k ≤ 64 ∧ i = .int .i64 (k : Int) ∧ Below w.heap.size w wr ∧ Blk wr w.heap.size 64 25 f ∧ Blk wr (w.heap.size + 1) 64 25 (fun _ => 0) ∧ Blk wr B 64 25 (fun i => if i < k - 1 then dvN n f i else 0)) (fun i _ => 64 - (intOf i).toNat)
    case atStart => exact ⟨1, by omega, by omega, rfl, hb, b0, b1, bq.congr (by simp)⟩
    case round =>
      clear hb b0 b1 bq
      obtain ⟨k, hk1, hk, rfl, hb, h0, h1, h2⟩ := hrel
      by_cases hlt : k < 64
      · obtain ⟨j, rfl⟩ : ∃ j, k = j + 1 := ⟨k - 1, by omega⟩
        have c1 := h0.cell (i := j + 1) (by omega)
        have z1 := h2.frozen j
        have c2 := h2.cell (i := j) (by omega)
        have e1 : ((j + 1 : Nat) : Int) = (j : Int) + 1 := by push_cast; rfl
        rw [e1]
        have b1 : f (j + 1) < n := HF.out (j + 1) hlt
        have m0 : 0 ≤ ((j : Int) + 1) % (n : Int) := Int.emod_nonneg _ (by omega)
        have m1 : ((j : Int) + 1) % (n : Int) < (n : Int) := Int.emod_lt_of_pos _ (by omega)
        have hmul : ((j : Int) + 1) % (n : Int) * (f (j + 1) : Int) ≤ 36 ∧ 0 ≤ ((j : Int) + 1) % (n : Int) * (f (j + 1) : Int) := by
          have := small_nat_mul n7 (Nat.mod_lt (j + 1) (show 0 < n by omega)) b1
          have e : (((j + 1) % n : Nat) : Int) = ((j : Int) + 1) % (n : Int) := by push_cast; rfl
          rwa [e] at this
        obtain ⟨m2, m3⟩ := hmul
        have m4 : 0 ≤ ((j : Int) + 1) % (n : Int) * (f (j + 1) : Int) % (n : Int) := Int.emod_nonneg _ (by omega)
        have m5 : ((j : Int) + 1) % (n : Int) * (f (j + 1) : Int) % (n : Int) < (n : Int) := Int.emod_lt_of_pos _ (by omega)
        have HE := Lib.hid e1; clear e1
        go_wp2_with fail
        go_region
        go_wp2_with fail
        go_roundw
        case rel =>
          refine ⟨j + 1 + 1, by omega, by omega, by rw [show ((j + 1 + 1 : Nat) : Int) = (j : Int) + 1 + 1 by omega], (hb.setCell (by simp; omega) _).drew, ?_, ?_, ?_⟩
          · exact (h0.setOther (by simp; omega)).drew
          · exact (h1.setOther (by simp; omega)).drew
          · refine ((h2.set (v := dvN n f j) ?_).congr (fun i _ => ?_)).drew
            · unfold dvN; rw [if_pos (by omega)]; push_cast; rfl
            · have := upd_lt (a := dvN n f) (b := fun _ => 0) (k := j) (v := dvN n f j) rfl i
              simpa using this
        case measure => simp [intOf] <;> omega
      · have e : k = 64 := by omega
        subst e
        go_wp2_with (first | refine wpList_load_blk rfl 25 _ rfl _ rfl 64 25 _ (h2) 5 Try.underlying25 Try.size25 ?_ | refine wpList_store_blk rfl 25 _ _ rfl _ 64 (_) rfl rfl 25 _ (h1) Try.size25 ?_)
        refine bodyPost_ret (results_bt rfl _ _ _ 64 25 5 _ rfl (h1.row _) Try.underlying25 Try.size25) rfl ⟨?_, below_setRow hb (by omega) _⟩
        rw [HV.out]
        simp only
        rw [bcells_congr (g := dvN n f) (f := fun i => if i < 64 - 1 then dvN n f i else 0)]
        · rfl
        · intro i hi
          by_cases h63 : i < 63
          · exact if_pos h63
          · rw [if_neg h63]; unfold dvN; rw [if_neg h63]
  · have HV := Lib.hid (show dvV p f = (fun _ => 0, 1) from if_neg (by rw [hc]; decide))
    rw [hc]
    clear hc
    go_wp2_with (first | refine wpList_store_blk rfl 25 _ _ rfl _ 64 (fun _ => 0) rfl (congrArg Value.agg zero64.symm) 25 _ (b1) Try.size25 ?_)
    refine bodyPost_ret (results_bt rfl _ _ _ 64 25 5 _ rfl (b1.row _) Try.underlying25 Try.size25) rfl ⟨by rw [HV.out]; rfl, below_setRow hb (by omega) _⟩
end Go.Proofs.Ytkaaffccklkafaa
