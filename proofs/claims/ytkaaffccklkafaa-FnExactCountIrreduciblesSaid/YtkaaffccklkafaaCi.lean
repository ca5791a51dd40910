/-
  Plain mathematics: how many irreducible polynomials there are, by the Moebius number and by taking away.
-/
import Derived.Test.YtkaaffccklkafaaPol
namespace Go.Proofs.Ytkaaffccklkafaa
/-- the Moebius number of n, whose divisors below k are taken out, times out; at most f more rounds -/
def muR : Nat → Nat → Nat → Int → Int
  | 0, _, _, out => out
  | f + 1, k, n, out => if k ≤ n then (if n % k = 0 then (if n / k % k = 0 then 0 else muR f (k + 1) (n / k) (-out)) else muR f (k + 1) n out) else out
def muN (n : Nat) : Int := muR 21 2 n 1
/-- the sum over the divisors of n below d -/
def ciS (p n : Nat) : Nat → Int
  | 0 => 0
  | d + 1 => ciS p n d + (if 1 ≤ d ∧ n % d = 0 then muN d * (p : Int) ^ (n / d) else 0)
def ciV (p n : Nat) : Int := ciS p n (n + 1) / (n : Int)
/-- what is left behind the divisors of n below d -/
def ciL (p n : Nat) : Nat → Int
  | 0 => (p : Int) ^ n
  | d + 1 => ciL p n d - (if 1 ≤ d ∧ n % d = 0 then (d : Int) * ciV p d else 0)
theorem ciL_s (p n d : Nat) : ciL p n (d + 1) = ciL p n d - (if 1 ≤ d ∧ n % d = 0 then (d : Int) * ciV p d else 0) := rfl
theorem ciS_s (p n d : Nat) : ciS p n (d + 1) = ciS p n d + (if 1 ≤ d ∧ n % d = 0 then muN d * (p : Int) ^ (n / d) else 0) := rfl
def ciOk (p : Nat) : Bool := (List.range 21).all fun n => (ciL p n n / (n : Int) == ciV p n || n == 0) && decide (0 ≤ ciV p n ∧ ciV p n ≤ 100000000000000000) && (List.range 22).all fun d =>
  (decide (n + 1 < d) || (decide (0 ≤ ciL p n d ∧ ciL p n d ≤ 100000000000000000) && decide (-100000000000000000 ≤ ciS p n d ∧ ciS p n d ≤ 100000000000000000))) && (decide (20 < d) || decide ((d : Int) * ciV p d ≤ 100000000000000000 ∧ -1 ≤ muN d ∧ muN d ≤ 1))
theorem ciOk_2 : ciOk 2 = true := by decide +kernel
theorem ciOk_3 : ciOk 3 = true := by decide +kernel
theorem ciOk_5 : ciOk 5 = true := by decide +kernel
theorem ciOk_7 : ciOk 7 = true := by decide +kernel
theorem ciOk_all {p : Nat} (h : p = 2 ∨ p = 3 ∨ p = 5 ∨ p = 7) : ciOk p = true := by
  rcases h with rfl | rfl | rfl | rfl
  · exact ciOk_2
  · exact ciOk_3
  · exact ciOk_5
  · exact ciOk_7
theorem ciOk_facts {p n : Nat} (h : p = 2 ∨ p = 3 ∨ p = 5 ∨ p = 7) (hn : n ≤ 20) :
    (n ≠ 0 → ciL p n n / (n : Int) = ciV p n) ∧ (0 ≤ ciV p n ∧ ciV p n ≤ 100000000000000000) ∧
    (∀ d : Nat, d ≤ n + 1 → (0 ≤ ciL p n d ∧ ciL p n d ≤ 100000000000000000) ∧ (-100000000000000000 ≤ ciS p n d ∧ ciS p n d ≤ 100000000000000000)) ∧
    (∀ d : Nat, d ≤ 20 → (d : Int) * ciV p d ≤ 100000000000000000 ∧ -1 ≤ muN d ∧ muN d ≤ 1) := by
  have h0 := List.all_eq_true.1 (ciOk_all h) n (by simpa using by omega)
  simp only [Bool.and_eq_true, Bool.or_eq_true, beq_iff_eq, decide_eq_true_eq, List.all_eq_true] at h0
  obtain ⟨⟨h1, h2⟩, h3⟩ := h0
  refine ⟨fun h => ?_, h2, fun d hd => ?_, fun d hd => ?_⟩
  · rcases h1 with h1 | h1
    · exact h1
    · exact absurd h1 h
  · rcases (h3 d (by simpa using by omega)).1 with h4 | h4
    · omega
    · exact h4
  · rcases (h3 d (by simpa using by omega)).2 with h4 | h4
    · omega
    · exact h4
theorem pow_big {p k : Nat} (h1 : 1 ≤ p) (h2 : p ≤ 7) (hk : k ≤ 20) : 1 ≤ p ^ k ∧ p ^ k ≤ 79792266297612001 := by
  have a1 : p ^ k ≤ 7 ^ k := Nat.pow_le_pow_left h2 k
  have a2 : 7 ^ k ≤ 7 ^ 20 := Nat.pow_le_pow_right (by omega) hk
  have a3 : 1 ≤ p ^ k := Nat.pow_pos (by omega)
  have a4 : 7 ^ 20 = 79792266297612001 := by decide
  omega
end Go.Proofs.Ytkaaffccklkafaa
