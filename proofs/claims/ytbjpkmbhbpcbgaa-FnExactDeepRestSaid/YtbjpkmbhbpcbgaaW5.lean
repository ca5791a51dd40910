/-
  Walks: degrees.
-/
import Derived.Test.YtbjpkmbhbpcbgaaW4
namespace Go.Proofs.Ytbjpkmbhbpcbgaa
open Go.RowKit
set_option linter.unusedVariables false
theorem okP_nat {p : Int} (h : okP p = true) : ∃ n : Nat, p = (n : Int) ∧ 2 ≤ n ∧ n ≤ 7 := by
  have := okP_le h
  exact ⟨p.toNat, by omega, by omega, by omega⟩
theorem lt_of_code {n : Nat} {fs : List (Nat → Nat)} (hc : codeL (n : Int) fs = 0) {f : Nat → Nat} (h : f ∈ fs) : ∀ i, i < 64 → f i < n := by
  intro i hi
  have := okA_lt ((codeL_zero hc).2 f h) hi
  omega
def degB (f : Nat → Nat) : Nat → Int
  | 0 => -1
  | n + 1 => if f n ≠ 0 then (n : Int) else degB f n
def deg (f : Nat → Nat) : Int := degB f 64
theorem degB_step {f : Nat → Nat} {k : Nat} (h : f k = 0) : degB f (k + 1) = degB f k := by simp [degB, h]
theorem degB_hit {f : Nat → Nat} {k : Nat} (h : f k ≠ 0) : degB f (k + 1) = (k : Int) := by simp [degB, h]
def degV (p : Int) (f : Nat → Nat) : Int × Int := if codeL p [f] = 0 then (deg f, 0) else (0, 1)
set_option maxHeartbeats 400000 in
theorem degree_any (f : Nat → Nat) (w : World) :
    Calls Try.prog 78 #[.agg (bcells 64 f)] w fun e w' => e = .returned (.int .i64 (deg f)) ∧ Below w.heap.size w w' := by
  go_enter Try.func78, Try.ntmps78
  go_wp2_with fail
  go_loop [3] (fun i => ∃ k : Nat, k ≤ 64 ∧ degB f 64 = degB f k ∧ i = .int .i64 ((k : Int) - 1)) (fun i => (intOf i + 1).toNat)
  case atStart => exact ⟨64, by omega, rfl, by rfl⟩
  case round =>
    obtain ⟨k, hk, hd, rfl⟩ := hrel
    have hD := Lib.hid hd; clear hd
    rcases k with _ | k
    · go_wp2
      go_ret
      exact ⟨ret_int (by rw [deg, hD.out]; rfl), (Below.refl _ _).alloc (Nat.le_refl _) _⟩
    · have hc := (Blk.new w 64 23 f).cell (i := k) (by omega)
      have e1 : ((k + 1 : Nat) : Int) - 1 = (k : Int) := by omega
      rw [e1]
      by_cases h0 : f k = 0
      · have hb : ((f k : Int) != 0) = false := by simp [h0]
        go_wp2
        go_round
        case rel => exact ⟨k, by omega, by rw [hD.out, degB_step h0], by go_num⟩
        case measure => simp [intOf]
      · have hb : ((f k : Int) != 0) = true := by simpa using h0
        go_wp2
        go_ret
        exact ⟨ret_int (by rw [deg, hD.out, degB_hit h0]), (Below.refl _ _).alloc (Nat.le_refl _) _⟩
set_option maxHeartbeats 400000 in
theorem l01Deg_any (f : Nat → Nat) (w : World) :
    Calls Try.prog 73 #[.agg (bcells 64 f)] w fun e w' => e = .returned (.int .i64 (deg f)) ∧ Below w.heap.size w w' := by
  go_enter Try.func73, Try.ntmps73
  go_wp2_with fail
  go_loop [3] (fun i => ∃ k : Nat, k ≤ 64 ∧ degB f 64 = degB f k ∧ i = .int .i64 ((k : Int) - 1)) (fun i => (intOf i + 1).toNat)
  case atStart => exact ⟨64, by omega, rfl, by rfl⟩
  case round =>
    obtain ⟨k, hk, hd, rfl⟩ := hrel
    have hD := Lib.hid hd; clear hd
    rcases k with _ | k
    · go_wp2
      go_ret
      exact ⟨ret_int (by rw [deg, hD.out]; rfl), (Below.refl _ _).alloc (Nat.le_refl _) _⟩
    · have hc := (Blk.new w 64 23 f).cell (i := k) (by omega)
      have e1 : ((k + 1 : Nat) : Int) - 1 = (k : Int) := by omega
      rw [e1]
      by_cases h0 : f k = 0
      · have hb : ((f k : Int) == 0) = true := by simp [h0]
        go_wp2
        go_round
        case rel => exact ⟨k, by omega, by rw [hD.out, degB_step h0], by go_num⟩
        case measure => simp [intOf]
      · have hb : ((f k : Int) == 0) = false := by simpa using h0
        go_wp2
        go_ret
        exact ⟨ret_int (by rw [deg, hD.out, degB_hit h0]), (Below.refl _ _).alloc (Nat.le_refl _) _⟩
end Go.Proofs.Ytbjpkmbhbpcbgaa
