/-
  Walks: numbers of polynomials, and back.
-/
import Derived.Test.YtkaaffccklkafaaW6
namespace Go.Proofs.Ytkaaffccklkafaa
open Go.RowKit
set_option linter.unusedVariables false
/-- the number by m steps from above -/
def nuN (p : Nat) (f : Nat → Nat) : Nat → Nat
  | 0 => 0
  | m + 1 => nuN p f m * p + f (63 - m)
theorem nuN_z (p : Nat) (f : Nat → Nat) : nuN p f 0 = 0 := rfl
theorem nuN_succ (p : Nat) (f : Nat → Nat) (m : Nat) : nuN p f (m + 1) = nuN p f m * p + f (63 - m) := rfl
theorem nuN_mono (p : Nat) (f : Nat → Nat) (hp : 1 ≤ p) (m : Nat) : ∀ k, nuN p f m ≤ nuN p f (m + k)
  | 0 => Nat.le_refl _
  | k + 1 => by
    have := nuN_mono p f hp m k
    have h2 : nuN p f (m + (k + 1)) = nuN p f (m + k) * p + f (63 - (m + k)) := rfl
    have h3 : nuN p f (m + k) * 1 ≤ nuN p f (m + k) * p := Nat.mul_le_mul_left _ hp
    omega
theorem nuN_le (p : Nat) (f : Nat → Nat) (hp : 1 ≤ p) {m n : Nat} (h : m ≤ n) : nuN p f m ≤ nuN p f n := by
  have := nuN_mono p f hp m (n - m)
  rwa [show m + (n - m) = n by omega] at this
theorem nuN_zero (p : Nat) (f : Nat → Nat) : ∀ m, m ≤ 64 → (∀ j, j < 64 → 64 - m ≤ j → f j = 0) → nuN p f m = 0
  | 0, _, _ => rfl
  | m + 1, hm, h => by
    rw [nuN_succ, nuN_zero p f m (by omega) (fun j h1 h2 => h j h1 (by omega)), h (63 - m) (by omega) (by omega)]
    simp
theorem nuN_deg (p : Nat) (f : Nat → Nat) : ∃ m : Nat, m ≤ 64 ∧ deg f = 63 - (m : Int) ∧ nuN p f m = 0 := by
  rcases deg_spec f with ⟨e, hz⟩ | ⟨d, hd, e, hne, hz⟩
  · exact ⟨64, by omega, by rw [e]; rfl, nuN_zero p f 64 (by omega) (fun j hj _ => hz j hj)⟩
  · exact ⟨63 - d, by omega, by rw [e]; omega, nuN_zero p f _ (by omega) (fun j hj h2 => hz j (by omega) hj)⟩
attribute [irreducible] nuN
def numV (p : Int) (f : Nat → Nat) : Int × Int := if codeL p [f] = 0 then (if (nuN p.toNat f 64 : Int) ≤ 1000000000000 then ((nuN p.toNat f 64 : Int), 0) else (0, 3)) else (0, 1)
theorem mul_small {a p : Nat} (h : (a : Int) ≤ 1000000000000) (hp : p ≤ 7) : (a : Int) * (p : Int) ≤ 7000000000000 ∧ 0 ≤ (a : Int) * (p : Int) := by
  refine ⟨?_, Int.mul_nonneg (by omega) (by omega)⟩
  have : p = 0 ∨ p = 1 ∨ p = 2 ∨ p = 3 ∨ p = 4 ∨ p = 5 ∨ p = 6 ∨ p = 7 := by omega
  rcases this with h | h | h | h | h | h | h | h <;> subst h <;> omega
def numC (p : Nat) (f : Nat → Nat) : Int := if (nuN p f 64 : Int) ≤ 1000000000000 then (nuN p f 64 : Int) else 1000000000001
set_option maxHeartbeats 800000 in
theorem l01Value_any (p : Nat) (f : Nat → Nat) (w : World) (hp1 : 2 ≤ p) (hp2 : p ≤ 7) (hf : ∀ i, i < 64 → f i < p) :
    Calls Try.prog 155 #[.int .i64 (p : Int), .agg (bcells 64 f)] w fun e w' => e = .returned (.int .i64 (numC p f)) ∧ Below w.heap.size w w' := by
  obtain ⟨m0, hm0, hd, hz⟩ := nuN_deg p f
  have HF := Lib.hid hf; clear hf
  go_enter Try.func155, Try.ntmps155
  have HD := Lib.hid hd; clear hd
  have HZ := Lib.hid hz; clear hz
  have hbn := Blk.new w 64 25 f
  go_wp2_with (first | refine wpList_load_blk rfl 25 _ rfl _ rfl 64 25 _ (hbn) 5 Try.underlying25 Try.size25 ?_ | (go_at_call 151; refine (l01Deg_any f _).mono ?_; rintro e w1 ⟨rfl, hw⟩))
  go_loopw [5, 6] (fun v i wr => ∃ m : Nat, m ≤ 64 ∧ i = .int .i64 (63 - (m : Int)) ∧ v = .int .i64 (nuN p f m : Int) ∧ (nuN p f m : Int) ≤ 1000000000000 ∧ Below w.heap.size w wr ∧ Blk wr w.heap.size 64 25 f) (fun _ i _ => (intOf i + 1).toNat)
  case atStart => exact ⟨m0, hm0, by rw [HD.out], by rw [HZ.out]; rfl, by rw [HZ.out]; decide, (below_alloc' _ _).trans (hw.mono (by simp)), hbn.below hw hbn.lt⟩
  case round =>
    obtain ⟨m, hm, rfl, rfl, hle, hb, hbb⟩ := hrel
    by_cases hlt : m < 64
    · have hc := hbb.cell (i := 63 - m) (by omega)
      have e1 : ((63 - m : Nat) : Int) = 63 - (m : Int) := by omega
      have b1 : f (63 - m) < p := HF.out (63 - m) (by omega)
      obtain ⟨m1, m3⟩ := mul_small hle hp2
      have hs : (nuN p f (m + 1) : Int) = (nuN p f m : Int) * (p : Int) + (f (63 - m) : Int) := by rw [nuN_succ]; push_cast; rfl
      have hmon := nuN_le p f (by omega : 1 ≤ p) (show m + 1 ≤ 64 by omega)
      have E1 := Lib.hid e1
      have hg : (0 : Int) ≤ 63 - (m : Int) := by omega
      rw [← E1.out]
      clear e1
      by_cases hbig : (1000000000000 : Int) < (nuN p f m : Int) * (p : Int) + (f (63 - m) : Int)
      · have HC : Hid (numC p f = 1000000000001) := if_neg (by omega)
        have ES := Lib.hid hs; clear hs
        go_wp2_with fail
        go_ret
        exact ⟨ret_int HC.out.symm, hb⟩
      · have hle2 : (nuN p f (m + 1) : Int) ≤ 1000000000000 := by omega
        have ES := Lib.hid hs; clear hs
        go_wp2_with fail
        go_roundw
        case rel => exact ⟨m + 1, by omega, by rw [E1.out]; go_num, by rw [ES.out], hle2, hb, hbb⟩
        case measure => simp [intOf] <;> omega
    · have e : m = 64 := by omega
      subst e
      have HC : Hid (numC p f = (nuN p f 64 : Int)) := if_pos hle
      go_wp2_with fail
      go_ret
      exact ⟨ret_int HC.out.symm, hb⟩
set_option maxRecDepth 100000 in
set_option maxHeartbeats 800000 in
theorem spec_NumberOfPoly_any (p : Int) (f : Nat → Nat) (hf : byte f) (w : World) :
    Calls Try.prog 45 #[.int .i64 p, .agg (bcells 64 f)] w fun e w' => e = .returned (.tuple #[.int .i64 (numV p f).1, .int .i64 (numV p f).2]) ∧ Below w.heap.size w w' := by
  go_enter Try.func45, Try.ntmps45
  go_upto_region 1 with (fail)
  obtain ⟨wo, hwo⟩ : ∃ wo : World, wo = (w.alloc (.cells (bcells 64 f) 25)) := ⟨_, rfl⟩
  have b0 : Blk wo (w.heap.size) 64 25 f := by subst hwo; have := (Blk.new w 64 25 f); simpa using this
  have hb : Below w.heap.size w wo := by subst hwo; exact ((Below.refl _ _).alloc (Nat.le_refl _) _)
  rw [← hwo]
  clear hwo
  go_upto_region 2 with (first | refine wpList_load_blk rfl 25 _ rfl _ rfl 64 25 _ (b0) 5 Try.underlying25 Try.size25 ?_ | (refine wpList_build_polys rfl 57 _ [f] rfl 25 rfl Try.underlying57 Try.elem25 (by simp) (by simp) rfl ?_; intro wa hwa hps hba; clear hwa) | (go_at_call 145; refine (l01Code_any p [f] (by simp [hf]) _ _ hps (by simp)).mono ?_; rintro e wb ⟨rfl, hbb⟩))
  have hB : Below wo.heap.size wo wb := hba.trans (hbb.mono hba.size)
  replace b0 := b0.below hB b0.lt
  replace hb := hb.trans (hB.mono hb.size)
  clear hB hba hbb hps
  rcases codeL_two p [f] with hc | hc
  · obtain ⟨n, hn, n2, n7⟩ := okP_nat (codeL_zero hc).1
    subst hn
    have lf := lt_of_code hc (f := f) (by simp)
    by_cases hbig : (nuN n f 64 : Int) ≤ 1000000000000
    · have hv : numV (n : Int) f = ((nuN n f 64 : Int), 0) := by unfold numV; rw [if_pos hc, Int.toNat_natCast, if_pos hbig]
      have HV := Lib.hid hv; clear hv
      have hC : numC n f = (nuN n f 64 : Int) := if_pos hbig
      have HC := Lib.hid hC; clear hC
      rw [hc]
      clear hc
      go_wp2_with (first | refine wpList_load_blk rfl 25 _ rfl _ rfl 64 25 _ (b0) 5 Try.underlying25 Try.size25 ?_ | (go_at_call 155; refine (l01Value_any n f _ n2 n7 lf).mono ?_; rw [HC.out]; rintro e wc ⟨rfl, hw⟩))
      go_ret2
      exact ⟨by rw [HV.out]; rfl, hb.trans (hw.mono hb.size)⟩
    · have hv : numV (n : Int) f = (0, 3) := by unfold numV; rw [if_pos hc, Int.toNat_natCast, if_neg hbig]
      have HV := Lib.hid hv; clear hv
      have hC : numC n f = 1000000000001 := if_neg hbig
      have HC := Lib.hid hC; clear hC
      rw [hc]
      clear hc
      go_wp2_with (first | refine wpList_load_blk rfl 25 _ rfl _ rfl 64 25 _ (b0) 5 Try.underlying25 Try.size25 ?_ | (go_at_call 155; refine (l01Value_any n f _ n2 n7 lf).mono ?_; rw [HC.out]; rintro e wc ⟨rfl, hw⟩))
      go_ret2
      exact ⟨by rw [HV.out]; rfl, hb.trans (hw.mono hb.size)⟩
  · have hv : numV p f = (0, 1) := by unfold numV; rw [if_neg (by rw [hc]; decide)]
    have HV := Lib.hid hv; clear hv
    rw [hc]
    clear hc
    go_wp2_with fail
    go_ret2
    exact ⟨by rw [HV.out]; rfl, hb⟩
set_option maxRecDepth 100000 in
set_option maxHeartbeats 1600000 in
theorem impl_NumberOfPoly_any (p : Int) (f : Nat → Nat) (hf : byte f) (w : World) :
    Calls Try.prog 44 #[.int .i64 p, .agg (bcells 64 f)] w fun e w' => e = .returned (.tuple #[.int .i64 (numV p f).1, .int .i64 (numV p f).2]) ∧ Below w.heap.size w w' := by
  go_enter Try.func44, Try.ntmps44
  go_upto_region 1 with (fail)
  obtain ⟨wo, hwo⟩ : ∃ wo : World, wo = (w.alloc (.cells (bcells 64 f) 25)) := ⟨_, rfl⟩
  have b0 : Blk wo (w.heap.size) 64 25 f := by subst hwo; have := (Blk.new w 64 25 f); simpa using this
  have hb : Below w.heap.size w wo := by subst hwo; exact ((Below.refl _ _).alloc (Nat.le_refl _) _)
  rw [← hwo]
  clear hwo
  go_upto_region 2 with (first | refine wpList_load_blk rfl 25 _ rfl _ rfl 64 25 _ (b0) 5 Try.underlying25 Try.size25 ?_ | (refine wpList_build_polys rfl 57 _ [f] rfl 25 rfl Try.underlying57 Try.elem25 (by simp) (by simp) rfl ?_; intro wa hwa hps hba; clear hwa) | (go_at_call 142; refine (checkPolys_any p [f] (by simp [hf]) _ _ hps (by simp)).mono ?_; rintro e wb ⟨rfl, hbb⟩))
  have hB : Below wo.heap.size wo wb := hba.trans (hbb.mono hba.size)
  replace b0 := b0.below hB b0.lt
  replace hb := hb.trans (hB.mono hb.size)
  clear hB hba hbb hps
  rcases codeL_two p [f] with hc | hc
  · obtain ⟨n, hn, n2, n7⟩ := okP_nat (codeL_zero hc).1
    subst hn
    have lf := lt_of_code hc (f := f) (by simp)
    obtain ⟨m0, hm0, hd, hz⟩ := nuN_deg n f
    have HD := Lib.hid hd; clear hd
    have HZ := Lib.hid hz; clear hz
    have HF := Lib.hid lf; clear lf
    have hv0 : numV (n : Int) f = if (nuN n f 64 : Int) ≤ 1000000000000 then ((nuN n f 64 : Int), 0) else (0, 3) := by unfold numV; rw [if_pos hc, Int.toNat_natCast]
    have HV0 := Lib.hid hv0; clear hv0
    rw [hc]
    clear hc
    go_wp2_with (first | refine wpList_load_blk rfl 25 _ rfl _ rfl 64 25 _ (b0) 5 Try.underlying25 Try.size25 ?_ | (go_at_call 143; refine (degree_any f _).mono ?_; rintro e w1 ⟨rfl, hw⟩))
    go_loopw [7, 8] (fun v i wr => ∃ m : Nat, m ≤ 64 ∧ i = .int .i64 (63 - (m : Int)) ∧ v = .int .i64 (nuN n f m : Int) ∧ (nuN n f m : Int) ≤ 1000000000000 ∧ Below w.heap.size w wr ∧ Blk wr w.heap.size 64 25 f) (fun _ i _ => (intOf i + 1).toNat)
    case atStart => exact ⟨m0, hm0, by rw [HD.out], by rw [HZ.out]; rfl, by rw [HZ.out]; decide, hb.trans (hw.mono hb.size), b0.below hw b0.lt⟩
    case round =>
      clear hb b0 hw
      obtain ⟨m, hm, rfl, rfl, hle, hb, hbb⟩ := hrel
      by_cases hlt : m < 64
      · have hc := hbb.cell (i := 63 - m) (by omega)
        have e1 : ((63 - m : Nat) : Int) = 63 - (m : Int) := by omega
        have b1 : f (63 - m) < n := HF.out (63 - m) (by omega)
        obtain ⟨m1, m3⟩ := mul_small hle n7
        have hs : (nuN n f (m + 1) : Int) = (nuN n f m : Int) * (n : Int) + (f (63 - m) : Int) := by rw [nuN_succ]; push_cast; rfl
        have hmon := nuN_le n f (by omega : 1 ≤ n) (show m + 1 ≤ 64 by omega)
        have E1 := Lib.hid e1
        have hg : (0 : Int) ≤ 63 - (m : Int) := by omega
        rw [← E1.out]
        clear e1
        by_cases hbig : (1000000000000 : Int) < (nuN n f m : Int) * (n : Int) + (f (63 - m) : Int)
        · have HV : Hid (numV (n : Int) f = (0, 3)) := by rw [HV0.out]; exact if_neg (by omega)
          have ES := Lib.hid hs; clear hs
          go_wp2_with fail
          go_ret2
          exact ⟨by rw [HV.out]; rfl, hb⟩
        · have hle2 : (nuN n f (m + 1) : Int) ≤ 1000000000000 := by omega
          have ES := Lib.hid hs; clear hs
          go_wp2_with fail
          go_roundw
          case rel => exact ⟨m + 1, by omega, by rw [E1.out]; go_num, by rw [ES.out], hle2, hb, hbb⟩
          case measure => simp [intOf] <;> omega
      · have e : m = 64 := by omega
        subst e
        have HV : Hid (numV (n : Int) f = ((nuN n f 64 : Int), 0)) := by rw [HV0.out]; exact if_pos hle
        go_wp2_with fail
        go_ret2
        exact ⟨by rw [HV.out]; rfl, hb⟩
  · have hv : numV p f = (0, 1) := by unfold numV; rw [if_neg (by rw [hc]; decide)]
    have HV := Lib.hid hv; clear hv
    rw [hc]
    clear hc
    go_wp2_with fail
    go_ret2
    exact ⟨by rw [HV.out]; rfl, hb⟩
end Go.Proofs.Ytkaaffccklkafaa
