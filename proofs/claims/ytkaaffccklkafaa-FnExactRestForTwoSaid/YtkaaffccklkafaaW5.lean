/-
  Walks: degrees.
-/
import Derived.Test.YtkaaffccklkafaaW4
namespace Go.Proofs.Ytkaaffccklkafaa
open Go.RowKit
set_option linter.unusedVariables false
theorem okP_nat {p : Int} (h : okP p = true) : ∃ n : Nat, p = (n : Int) ∧ 2 ≤ n ∧ n ≤ 7 := by
  have := okP_le h
  exact ⟨p.toNat, by omega, by omega, by omega⟩
theorem lt_of_code {n : Nat} {fs : List (Nat → Nat)} (hc : codeL (n : Int) fs = 0) {f : Nat → Nat} (h : f ∈ fs) : ∀ i, i < 64 → f i < n := by
  intro i hi
  have := okA_lt ((codeL_zero hc).2 f h) hi
  omega
def degB (f : Nat → Nat) : Nat → Int
  | 0 => -1
  | n + 1 => if f n ≠ 0 then (n : Int) else degB f n
def deg (f : Nat → Nat) : Int := degB f 64
theorem degB_step {f : Nat → Nat} {k : Nat} (h : f k = 0) : degB f (k + 1) = degB f k := by simp [degB, h]
theorem degB_hit {f : Nat → Nat} {k : Nat} (h : f k ≠ 0) : degB f (k + 1) = (k : Int) := by simp [degB, h]
def degV (p : Int) (f : Nat → Nat) : Int × Int := if codeL p [f] = 0 then (deg f, 0) else (0, 1)
set_option maxHeartbeats 400000 in
theorem degree_any (f : Nat → Nat) (w : World) :
    Calls Try.prog 143 #[.agg (bcells 64 f)] w fun e w' => e = .returned (.int .i64 (deg f)) ∧ Below w.heap.size w w' := by
  go_enter Try.func143, Try.ntmps143
  go_wp2_with fail
  go_loop [3] (fun i => ∃ k : Nat, k ≤ 64 ∧ degB f 64 = degB f k ∧ i = .int .i64 ((k : Int) - 1)) (fun i => (intOf i + 1).toNat)
  case atStart => exact ⟨64, by omega, rfl, by rfl⟩
  case round =>
    obtain ⟨k, hk, hd, rfl⟩ := hrel
    have hD := Lib.hid hd; clear hd
    rcases k with _ | k
    · go_wp2
      go_ret
      exact ⟨ret_int (by rw [deg, hD.out]; rfl), (Below.refl _ _).alloc (Nat.le_refl _) _⟩
    · have hc := (Blk.new w 64 25 f).cell (i := k) (by omega)
      have e1 : ((k + 1 : Nat) : Int) - 1 = (k : Int) := by omega
      rw [e1]
      by_cases h0 : f k = 0
      · have hb : ((f k : Int) != 0) = false := by simp [h0]
        go_wp2
        go_round
        case rel => exact ⟨k, by omega, by rw [hD.out, degB_step h0], by go_num⟩
        case measure => simp [intOf]
      · have hb : ((f k : Int) != 0) = true := by simpa using h0
        go_wp2
        go_ret
        exact ⟨ret_int (by rw [deg, hD.out, degB_hit h0]), (Below.refl _ _).alloc (Nat.le_refl _) _⟩
set_option maxHeartbeats 400000 in
theorem l01Deg_any (f : Nat → Nat) (w : World) :
    Calls Try.prog 151 #[.agg (bcells 64 f)] w fun e w' => e = .returned (.int .i64 (deg f)) ∧ Below w.heap.size w w' := by
  go_enter Try.func151, Try.ntmps151
  go_wp2_with fail
  go_loop [3] (fun i => ∃ k : Nat, k ≤ 64 ∧ degB f 64 = degB f k ∧ i = .int .i64 ((k : Int) - 1)) (fun i => (intOf i + 1).toNat)
  case atStart => exact ⟨64, by omega, rfl, by rfl⟩
  case round =>
    obtain ⟨k, hk, hd, rfl⟩ := hrel
    have hD := Lib.hid hd; clear hd
    rcases k with _ | k
    · go_wp2
      go_ret
      exact ⟨ret_int (by rw [deg, hD.out]; rfl), (Below.refl _ _).alloc (Nat.le_refl _) _⟩
    · have hc := (Blk.new w 64 25 f).cell (i := k) (by omega)
      have e1 : ((k + 1 : Nat) : Int) - 1 = (k : Int) := by omega
      rw [e1]
      by_cases h0 : f k = 0
      · have hb : ((f k : Int) == 0) = true := by simp [h0]
        go_wp2
        go_round
        case rel => exact ⟨k, by omega, by rw [hD.out, degB_step h0], by go_num⟩
        case measure => simp [intOf]
      · have hb : ((f k : Int) == 0) = false := by simpa using h0
        go_wp2
        go_ret
        exact ⟨ret_int (by rw [deg, hD.out, degB_hit h0]), (Below.refl _ _).alloc (Nat.le_refl _) _⟩
set_option maxRecDepth 100000 in
set_option maxHeartbeats 800000 in
theorem impl_DegreeOf_any (p : Int) (f : Nat → Nat) (hf : byte f) (w : World) :
    Calls Try.prog 42 #[.int .i64 p, .agg (bcells 64 f)] w fun e w' => e = .returned (.tuple #[.int .i64 (degV p f).1, .int .i64 (degV p f).2]) ∧ Below w.heap.size w w' := by
  go_enter Try.func42, Try.ntmps42
  go_upto_region 1 with (fail)
  obtain ⟨wo, hwo⟩ : ∃ wo : World, wo = (w.alloc (.cells (bcells 64 f) 25)) := ⟨_, rfl⟩
  have b0 : Blk wo (w.heap.size) 64 25 f := by subst hwo; have := (Blk.new w 64 25 f); simpa using this
  have hb : Below w.heap.size w wo := by subst hwo; exact ((Below.refl _ _).alloc (Nat.le_refl _) _)
  rw [← hwo]
  clear hwo
  go_upto_region 2 with (first | refine wpList_load_blk rfl 25 _ rfl _ rfl 64 25 _ (b0) 5 Try.underlying25 Try.size25 ?_ | (refine wpList_build_polys rfl 57 _ [f] rfl 25 rfl Try.underlying57 Try.elem25 (by simp) (by simp) rfl ?_; intro wa hwa hps hba; clear hwa) | (go_at_call 142; refine (checkPolys_any p [f] (by simp [hf]) _ _ hps (by simp)).mono ?_; rintro e wb ⟨rfl, hbb⟩))
  have hB : Below wo.heap.size wo wb := hba.trans (hbb.mono hba.size)
  replace b0 := b0.below hB b0.lt
  replace hb := hb.trans (hB.mono hb.size)
  clear hB hba hbb hps
  rcases codeL_two p [f] with hc | hc
  · have hv : degV p f = _ := if_pos hc
    have HV := Lib.hid hv; clear hv
    rw [hc]
    clear hc
    go_wp2_with (first | refine wpList_load_blk rfl 25 _ rfl _ rfl 64 25 _ (b0) 5 Try.underlying25 Try.size25 ?_ | (go_at_call 143; refine (degree_any f _).mono ?_; rintro e wc ⟨rfl, hw⟩))
    go_ret2
    exact ⟨by rw [HV.out]; rfl, hb.trans (hw.mono hb.size)⟩
  · have hv : degV p f = _ := if_neg (by rw [hc]; decide)
    have HV := Lib.hid hv; clear hv
    rw [hc]
    clear hc
    go_wp2_with fail
    go_ret2
    exact ⟨by rw [HV.out]; rfl, hb⟩
set_option maxRecDepth 100000 in
set_option maxHeartbeats 800000 in
theorem spec_DegreeOf_any (p : Int) (f : Nat → Nat) (hf : byte f) (w : World) :
    Calls Try.prog 89 #[.int .i64 p, .agg (bcells 64 f)] w fun e w' => e = .returned (.tuple #[.int .i64 (degV p f).1, .int .i64 (degV p f).2]) ∧ Below w.heap.size w w' := by
  go_enter Try.func89, Try.ntmps89
  go_upto_region 1 with (fail)
  obtain ⟨wo, hwo⟩ : ∃ wo : World, wo = (w.alloc (.cells (bcells 64 f) 25)) := ⟨_, rfl⟩
  have b0 : Blk wo (w.heap.size) 64 25 f := by subst hwo; have := (Blk.new w 64 25 f); simpa using this
  have hb : Below w.heap.size w wo := by subst hwo; exact ((Below.refl _ _).alloc (Nat.le_refl _) _)
  rw [← hwo]
  clear hwo
  go_upto_region 2 with (first | refine wpList_load_blk rfl 25 _ rfl _ rfl 64 25 _ (b0) 5 Try.underlying25 Try.size25 ?_ | (refine wpList_build_polys rfl 57 _ [f] rfl 25 rfl Try.underlying57 Try.elem25 (by simp) (by simp) rfl ?_; intro wa hwa hps hba; clear hwa) | (go_at_call 145; refine (l01Code_any p [f] (by simp [hf]) _ _ hps (by simp)).mono ?_; rintro e wb ⟨rfl, hbb⟩))
  have hB : Below wo.heap.size wo wb := hba.trans (hbb.mono hba.size)
  replace b0 := b0.below hB b0.lt
  replace hb := hb.trans (hB.mono hb.size)
  clear hB hba hbb hps
  rcases codeL_two p [f] with hc | hc
  · have hv : degV p f = _ := if_pos hc
    have HV := Lib.hid hv; clear hv
    rw [hc]
    clear hc
    go_wp2_with (first | refine wpList_load_blk rfl 25 _ rfl _ rfl 64 25 _ (b0) 5 Try.underlying25 Try.size25 ?_ | (go_at_call 151; refine (l01Deg_any f _).mono ?_; rintro e wc ⟨rfl, hw⟩))
    go_ret2
    exact ⟨by rw [HV.out]; rfl, hb.trans (hw.mono hb.size)⟩
  · have hv : degV p f = _ := if_neg (by rw [hc]; decide)
    have HV := Lib.hid hv; clear hv
    rw [hc]
    clear hc
    go_wp2_with fail
    go_ret2
    exact ⟨by rw [HV.out]; rfl, hb⟩
end Go.Proofs.Ytkaaffccklkafaa
