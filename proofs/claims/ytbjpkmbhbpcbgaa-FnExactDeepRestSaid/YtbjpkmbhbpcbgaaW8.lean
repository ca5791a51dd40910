/-
  Walks: polynomials out of their numbers.
-/
import Derived.Test.YtbjpkmbhbpcbgaaW7
namespace Go.Proofs.Ytbjpkmbhbpcbgaa
open Go.RowKit
set_option linter.unusedVariables false
/-- digit i of n at base p -/
def dgt (p n i : Nat) : Nat := n / p ^ i % p
theorem pow_two_le (p i : Nat) (hp : 2 ≤ p) : 2 ^ i ≤ p ^ i := Nat.pow_le_pow_left hp i
theorem dgt_bound {p n k : Nat} (hp : 2 ≤ p) (hn : n ≤ 1000000000000) (h : 0 < n / p ^ k) : k < 40 := by
  by_cases hk : k < 40
  · exact hk
  · exfalso
    have h1 : p ^ k ≤ n := by
      by_cases h2 : p ^ k ≤ n
      · exact h2
      · rw [Nat.div_eq_of_lt (by omega)] at h; omega
    have h2 := pow_two_le p k hp
    have h3 : 2 ^ 40 ≤ 2 ^ k := Nat.pow_le_pow_right (by omega) (by omega)
    have h4 : (2 : Nat) ^ 40 = 1099511627776 := by decide +kernel
    omega
theorem dgt_zero {p n k i : Nat} (hp : 2 ≤ p) (h : n / p ^ k = 0) (hi : k ≤ i) : dgt p n i = 0 := by
  unfold dgt
  have h1 : n < p ^ k := by
    by_cases h2 : n < p ^ k
    · exact h2
    · have := Nat.div_pos (show p ^ k ≤ n by omega) (Nat.pow_pos (by omega))
      omega
  have h2 : p ^ k ≤ p ^ i := Nat.pow_le_pow_right (by omega) hi
  rw [Nat.div_eq_of_lt (by omega)]
  exact Nat.zero_mod _
theorem dgt_next (p n k : Nat) : n / p ^ (k + 1) = n / p ^ k / p := by
  rw [Nat.pow_succ, Nat.div_div_eq_div_mul]
def ofN (p : Nat) (n : Nat) : Nat → Nat := fun i => dgt p n i
def pnV (p n : Int) : (Nat → Nat) × Int := if okP p then (if 0 ≤ n ∧ n ≤ 1000000000000 then (ofN p.toNat n.toNat, 0) else (fun _ => 0, 2)) else (fun _ => 0, 1)
theorem pnV_ok {p n : Int} (h1 : okP p = true) (h2 : 0 ≤ n ∧ n ≤ 1000000000000) : pnV p n = (ofN p.toNat n.toNat, 0) := by
  unfold pnV; rw [if_pos h1, if_pos h2]
theorem pnV_range {p n : Int} (h1 : okP p = true) (h2 : ¬ (0 ≤ n ∧ n ≤ 1000000000000)) : pnV p n = (fun _ => 0, 2) := by
  unfold pnV; rw [if_pos h1, if_neg h2]
theorem pnV_bad {p n : Int} (h1 : okP p = false) : pnV p n = (fun _ => 0, 1) := by
  unfold pnV; rw [if_neg (by rw [h1]; decide)]
set_option maxRecDepth 100000 in
set_option maxHeartbeats 800000 in
theorem polyOfNumber_any (p n : Nat) (w : World) (hp1 : 2 ≤ p) (hp2 : p ≤ 7) (hn : (n : Int) ≤ 1000000000000) :
    Calls Try.prog 90 #[.int .i64 (p : Int), .int .i64 (n : Int)] w fun e w' => e = .returned (.agg (bcells 64 (ofN p n))) ∧ Below w.heap.size w w' := by
  go_enter Try.func90, Try.ntmps90
  go_wp2_with fail
  rw [← zero64]
  go_loopw [1, 6] (fun v i wr => ∃ k : Nat, k ≤ 64 ∧ i = .int .i64 (k : Int) ∧ v = .int .i64 ((n / p ^ k : Nat) : Int) ∧ Below w.heap.size w wr ∧ Blk wr w.heap.size 64 23 (fun _ => 0) ∧ Blk wr (w.heap.size + 1) 64 23 (fun i => if i < k then dgt p n i else 0)) (fun v _ _ => (intOf v).toNat)
  case atStart =>
    refine ⟨0, by omega, rfl, by rw [Nat.pow_zero, Nat.div_one], ((Below.refl _ _).alloc (Nat.le_refl _) _).alloc (by simp) _, (Blk.new w _ _ _).alloc _, ?_⟩
    have := (Blk.new (w.alloc (.cells (bcells 64 fun _ => 0) 23)) 64 23 (fun _ => 0)).congr (g := fun i => if i < 0 then dgt p n i else 0) (by simp)
    simpa using this
  case round =>
    obtain ⟨k, hk, rfl, rfl, hb, h0, h1⟩ := hrel
    obtain ⟨q, hq⟩ : ∃ q, q = n / p ^ k := ⟨_, rfl⟩
    rw [← hq]
    by_cases hpos : 0 < q
    · have hk40 : k < 40 := dgt_bound (n := n) hp1 (by omega) (by rw [← hq]; exact hpos)
      have hqn : q ≤ n := by rw [hq]; exact Nat.div_le_self _ _
      have z1 := h1.frozen k
      have c1 := h1.cell (i := k) (by omega)
      have hm : q % p < p := Nat.mod_lt _ (by omega)
      have hmi : ((q : Int) % (p : Int)) < (p : Int) := Int.emod_lt_of_pos _ (by omega)
      have hmi0 : 0 ≤ ((q : Int) % (p : Int)) := Int.emod_nonneg _ (by omega)
      have hdi0 : 0 ≤ ((q : Int) / (p : Int)) := Int.ediv_nonneg (by omega) (by omega)
      have hdi1 : ((q : Int) / (p : Int)) ≤ 1000000000000 := by
        have := Int.ediv_le_self (p : Int) (show (0 : Int) ≤ (q : Int) by omega)
        omega
      have hd : q / p < q := Nat.div_lt_self hpos (by omega)
      have HQ := Lib.hid hq; clear hq
      have HD := Lib.hid hd; clear hd
      go_wp2_with fail
      go_roundw
      case rel =>
        refine ⟨k + 1, by omega, by go_num, ?_, hb.setCell (by simp) _, h0.setOther (by simp), ?_⟩
        · rw [dgt_next, ← HQ.out]; push_cast; rfl
        · exact (h1.set (v := dgt p n k) (by unfold dgt; rw [← HQ.out]; push_cast; rfl)).congr (fun i _ => upd_lt (a := dgt p n) (b := fun _ => 0) rfl i)
      case measure =>
        simp only [intOf]
        have := HD.out
        have e : (q : Int) / (p : Int) = ((q / p : Nat) : Int) := by push_cast; rfl
        rw [e]
        omega
    · have hq0 : q = 0 := by omega
      subst hq0
      have HQ := Lib.hid hq; clear hq
      go_wp2_with (first | refine wpList_load_blk rfl 23 _ rfl _ rfl 64 23 _ (h1) 5 Try.underlying23 Try.size23 ?_ | refine wpList_store_blk rfl 23 _ _ rfl _ 64 ((fun i => if i < k then dgt p n i else 0)) rfl rfl 23 _ (h0) Try.size23 ?_)
      refine bodyPost_ret (results_blk rfl _ _ _ 64 23 5 _ rfl (h0.row _) Try.underlying23 Try.size23) rfl ⟨?_, below_setRow hb (by omega) _⟩
      rw [bcells_congr (g := ofN p n)]
      intro i _
      unfold ofN
      by_cases hi : i < k
      · rw [if_pos hi]
      · rw [if_neg hi, dgt_zero hp1 HQ.out.symm (by omega)]
set_option maxRecDepth 100000 in
set_option maxHeartbeats 800000 in
theorem l01Of_any (p n : Nat) (w : World) (hp1 : 2 ≤ p) (hp2 : p ≤ 7) (hn : (n : Int) ≤ 1000000000000) :
    Calls Try.prog 85 #[.int .i64 (p : Int), .int .i64 (n : Int)] w fun e w' => e = .returned (.agg (bcells 64 (ofN p n))) ∧ Below w.heap.size w w' := by
  go_enter Try.func85, Try.ntmps85
  go_upto_region 1 with (fail)
  rw [← zero64]
  obtain ⟨wo, hwo⟩ : ∃ wo : World, wo = w.alloc (.cells (bcells 64 fun _ => 0) 23) := ⟨_, rfl⟩
  have hsz := Lib.hid (show wo.heap.size = w.heap.size + 1 by rw [hwo]; simp)
  rw [← hwo]
  have HW := Lib.hid hwo; clear hwo
  go_upto_region 2 with (refine wpList_store_new rfl 23 _ _ rfl _ 23 64 (fun _ => 0) rfl (by exact congrArg Value.agg zero64.symm) rfl Try.size23 ?_)
  rw [hsz.out]
  have hwo := HW.out
  clear hsz HW
  subst hwo
  go_wp2_with fail
  go_loopw [1, 6] (fun v i wr => ∃ k : Nat, k ≤ 64 ∧ i = .int .i64 (k : Int) ∧ v = .int .i64 ((n / p ^ k : Nat) : Int) ∧ Below w.heap.size w wr ∧ Blk wr w.heap.size 64 23 (fun _ => 0) ∧ Blk wr (w.heap.size + 1) 64 23 (fun i => if i < k then dgt p n i else 0)) (fun v _ _ => (intOf v).toNat)
  case atStart =>
    refine ⟨0, by omega, rfl, by rw [Nat.pow_zero, Nat.div_one], ((Below.refl _ _).alloc (Nat.le_refl _) _).alloc (by simp) _, (Blk.new w _ _ _).alloc _, ?_⟩
    have := (Blk.new (w.alloc (.cells (bcells 64 fun _ => 0) 23)) 64 23 (fun _ => 0)).congr (g := fun i => if i < 0 then dgt p n i else 0) (by simp)
    simpa using this
  case round =>
    obtain ⟨k, hk, rfl, rfl, hb, h0, h1⟩ := hrel
    obtain ⟨q, hq⟩ : ∃ q, q = n / p ^ k := ⟨_, rfl⟩
    rw [← hq]
    by_cases hpos : 0 < q
    · have hk40 : k < 40 := dgt_bound (n := n) hp1 (by omega) (by rw [← hq]; exact hpos)
      have hqn : q ≤ n := by rw [hq]; exact Nat.div_le_self _ _
      have z1 := h1.frozen k
      have c1 := h1.cell (i := k) (by omega)
      have hm : q % p < p := Nat.mod_lt _ (by omega)
      have hmi : ((q : Int) % (p : Int)) < (p : Int) := Int.emod_lt_of_pos _ (by omega)
      have hmi0 : 0 ≤ ((q : Int) % (p : Int)) := Int.emod_nonneg _ (by omega)
      have hdi0 : 0 ≤ ((q : Int) / (p : Int)) := Int.ediv_nonneg (by omega) (by omega)
      have hdi1 : ((q : Int) / (p : Int)) ≤ 1000000000000 := by
        have := Int.ediv_le_self (p : Int) (show (0 : Int) ≤ (q : Int) by omega)
        omega
      have hd : q / p < q := Nat.div_lt_self hpos (by omega)
      have HQ := Lib.hid hq; clear hq
      have HD := Lib.hid hd; clear hd
      go_wp2_with fail
      go_roundw
      case rel =>
        refine ⟨k + 1, by omega, by go_num, ?_, hb.setCell (by simp) _, h0.setOther (by simp), ?_⟩
        · rw [dgt_next, ← HQ.out]; push_cast; rfl
        · exact (h1.set (v := dgt p n k) (by unfold dgt; rw [← HQ.out]; push_cast; rfl)).congr (fun i _ => upd_lt (a := dgt p n) (b := fun _ => 0) rfl i)
      case measure =>
        simp only [intOf]
        have := HD.out
        have e : (q : Int) / (p : Int) = ((q / p : Nat) : Int) := by push_cast; rfl
        rw [e]
        omega
    · have hq0 : q = 0 := by omega
      subst hq0
      have HQ := Lib.hid hq; clear hq
      go_wp2_with (first | refine wpList_load_blk rfl 23 _ rfl _ rfl 64 23 _ (h1) 5 Try.underlying23 Try.size23 ?_ | refine wpList_store_blk rfl 23 _ _ rfl _ 64 ((fun i => if i < k then dgt p n i else 0)) rfl rfl 23 _ (h0) Try.size23 ?_)
      refine bodyPost_ret (results_blk rfl _ _ _ 64 23 5 _ rfl (h0.row _) Try.underlying23 Try.size23) rfl ⟨?_, below_setRow hb (by omega) _⟩
      rw [bcells_congr (g := ofN p n)]
      intro i _
      unfold ofN
      by_cases hi : i < k
      · rw [if_pos hi]
      · rw [if_neg hi, dgt_zero hp1 HQ.out.symm (by omega)]
end Go.Proofs.Ytbjpkmbhbpcbgaa
