/-
  Plain mathematics: long division, step by step.
-/
import Derived.Test.YtbjpkmbhbpcbgaaPol
namespace Go.Proofs.Ytbjpkmbhbpcbgaa

/-- one step of the division at n: c times b, moved by n - m, is taken away -/
def stp (p inv m : Nat) (b : Nat → Nat) (n : Nat) (a : Nat → Nat) : Nat → Nat :=
  fun k => if n - m ≤ k ∧ k ≤ n then (a k + (p - a n * inv % p) * b (k - (n - m))) % p else a k
/-- inside the step, behind j cells -/
def stpr (p inv m : Nat) (b : Nat → Nat) (n : Nat) (a : Nat → Nat) (j : Nat) : Nat → Nat :=
  fun k => if n - m ≤ k ∧ k < n - m + j then (a k + (p - a n * inv % p) * b (k - (n - m))) % p else a k
theorem stpr_zero (p inv m : Nat) (b : Nat → Nat) (n : Nat) (a : Nat → Nat) (k : Nat) : stpr p inv m b n a 0 k = a k := by
  unfold stpr; rw [if_neg (by omega)]
theorem stpr_at (p inv m : Nat) (b : Nat → Nat) (n : Nat) (a : Nat → Nat) (j : Nat) : stpr p inv m b n a j (n - m + j) = a (n - m + j) := by
  unfold stpr; rw [if_neg (by omega)]
theorem stpr_next (p inv m : Nat) (b : Nat → Nat) (n : Nat) (a : Nat → Nat) (j : Nat) : ∀ k, upd (stpr p inv m b n a j) (n - m + j) ((a (n - m + j) + (p - a n * inv % p) * b j) % p) k = stpr p inv m b n a (j + 1) k := by
  intro k
  unfold upd stpr
  by_cases h : k = n - m + j
  · subst h; rw [if_pos rfl, if_pos (by omega), show n - m + j - (n - m) = j by omega]
  · rw [if_neg h]
    by_cases h2 : n - m ≤ k ∧ k < n - m + j
    · rw [if_pos h2, if_pos (by omega)]
    · rw [if_neg h2, if_neg (by omega)]
theorem stpr_full (p inv m : Nat) (b : Nat → Nat) {n : Nat} (a : Nat → Nat) (h : m ≤ n) (k : Nat) : stpr p inv m b n a (m + 1) k = stp p inv m b n a k := by
  unfold stpr stp
  by_cases h2 : n - m ≤ k ∧ k ≤ n
  · rw [if_pos h2, if_pos (by omega)]
  · rw [if_neg h2, if_neg (by omega)]
theorem stp_lt {p inv m : Nat} {b : Nat → Nat} {n : Nat} {a : Nat → Nat} (hp : 0 < p) {N : Nat} (ha : ∀ k, k < N → a k < p) : ∀ k, k < N → stp p inv m b n a k < p := by
  intro k hk
  unfold stp
  split
  · exact Nat.mod_lt _ hp
  · exact ha k hk
theorem stp_skip {p inv m : Nat} {b : Nat → Nat} {n : Nat} {a : Nat → Nat} {N : Nat} (ha : ∀ k, k < N → a k < p) (h0 : a n = 0) {k : Nat} (hk : k < N) : stp p inv m b n a k = a k := by
  unfold stp
  split
  · rw [h0, Nat.zero_mul, Nat.zero_mod, Nat.sub_zero, Nat.add_mul_mod_self_left, Nat.mod_eq_of_lt (ha k hk)]
  · rfl
/-- behind the steps at 127, .., 128 - i -/
def dS (p inv m : Nat) (b a : Nat → Nat) : Nat → Nat → Nat
  | 0 => a
  | i + 1 => stp p inv m b (127 - i) (dS p inv m b a i)
theorem dS_zero (p inv m : Nat) (b a : Nat → Nat) : dS p inv m b a 0 = a := rfl
theorem dS_succ (p inv m : Nat) (b a : Nat → Nat) (i : Nat) : dS p inv m b a (i + 1) = stp p inv m b (127 - i) (dS p inv m b a i) := rfl
theorem dS_lt {p inv m : Nat} {b a : Nat → Nat} (hp : 0 < p) {N : Nat} (ha : ∀ k, k < N → a k < p) : ∀ i k, k < N → dS p inv m b a i k < p
  | 0 => ha
  | i + 1 => stp_lt hp (dS_lt hp ha i)
/-- the quotient's digit at k, from the step at k + m -/
def qd (p inv m : Nat) (b a : Nat → Nat) (k : Nat) : Nat := dS p inv m b a (127 - (k + m)) (k + m) * inv % p
/-- the quotient behind i steps -/
def qS (p inv m : Nat) (b a : Nat → Nat) (i : Nat) : Nat → Nat := fun k => if 128 - i ≤ k + m ∧ k + m ≤ 127 then qd p inv m b a k else 0
theorem qS_zero (p inv m : Nat) (b a : Nat → Nat) (k : Nat) : qS p inv m b a 0 k = 0 := by
  unfold qS; rw [if_neg (by omega)]
theorem qS_next {p inv m : Nat} (b a : Nat → Nat) {i : Nat} (hi : i + m ≤ 127) : ∀ k, upd (qS p inv m b a i) (127 - i - m) (dS p inv m b a i (127 - i) * inv % p) k = qS p inv m b a (i + 1) k := by
  intro k
  unfold upd qS
  by_cases h : k = 127 - i - m
  · subst h
    rw [if_pos rfl, if_pos (by omega)]
    unfold qd
    rw [show 127 - i - m + m = 127 - i by omega, show 127 - (127 - i) = i by omega]
  · rw [if_neg h]
    by_cases h2 : 128 - i ≤ k + m ∧ k + m ≤ 127
    · rw [if_pos h2, if_pos (by omega)]
    · rw [if_neg h2, if_neg (by omega)]
theorem qS_skip {p inv m : Nat} (b a : Nat → Nat) {i : Nat} (hi : i + m ≤ 127) (h0 : dS p inv m b a i (127 - i) = 0) : ∀ k, qS p inv m b a (i + 1) k = qS p inv m b a i k := by
  intro k
  rw [← qS_next b a hi k]
  unfold upd
  split
  · rename_i h
    subst h
    rw [h0, Nat.zero_mul, Nat.zero_mod]
    unfold qS
    rw [if_neg (by omega)]
  · rfl
/-- quotient and rest of a (up to 127) by b, m its degree, inv the inverse of its leading coefficient -/
def quoW (p inv m : Nat) (b a : Nat → Nat) : Nat → Nat := qS p inv m b a (128 - m)
def resW (p inv m : Nat) (b a : Nat → Nat) : Nat → Nat := dS p inv m b a (128 - m)
/-- the number whose product with c is 1 -/
def invN (p c : Nat) : Nat := ((List.range 7).find? fun k => k * c % p == 1).getD 0
end Go.Proofs.Ytbjpkmbhbpcbgaa
