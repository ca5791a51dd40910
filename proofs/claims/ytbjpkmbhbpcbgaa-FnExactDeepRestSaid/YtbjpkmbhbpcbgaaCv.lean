/-
  Plain mathematics: products of polynomials, row by row.
-/
import Derived.Test.YtbjpkmbhbpcbgaaPol
namespace Go.Proofs.Ytbjpkmbhbpcbgaa

/-- the coefficient at k of the product, after the rows below i -/
def cv (p : Nat) (f g : Nat → Nat) : Nat → Nat → Nat
  | 0, _ => 0
  | i + 1, k => (cv p f g i k + (if i ≤ k then f i * g (k - i) else 0)) % p
theorem cv_zero (p : Nat) (f g : Nat → Nat) (k : Nat) : cv p f g 0 k = 0 := rfl
theorem cv_succ (p : Nat) (f g : Nat → Nat) (i k : Nat) : cv p f g (i + 1) k = (cv p f g i k + (if i ≤ k then f i * g (k - i) else 0)) % p := rfl
theorem cv_lt (p : Nat) (f g : Nat → Nat) (hp : 0 < p) (i k : Nat) : cv p f g i k < p := by
  cases i with
  | zero => exact hp
  | succ i => exact Nat.mod_lt _ hp
theorem cv_same {p : Nat} {f g : Nat → Nat} (hp : 0 < p) {i k : Nat} (h : i ≤ k → f i * g (k - i) = 0) : cv p f g (i + 1) k = cv p f g i k := by
  rw [cv_succ]
  have : (if i ≤ k then f i * g (k - i) else 0) = 0 := by
    by_cases hik : i ≤ k
    · rw [if_pos hik, h hik]
    · rw [if_neg hik]
  rw [this, Nat.add_zero, Nat.mod_eq_of_lt (cv_lt p f g hp i k)]
theorem cv_hit {p : Nat} {f g : Nat → Nat} (i j : Nat) : cv p f g (i + 1) (i + j) = (cv p f g i (i + j) + f i * g j) % p := by
  rw [cv_succ, if_pos (by omega), show i + j - i = j by omega]
/-- the state inside row i, behind j cells -/
def cvr (p : Nat) (f g : Nat → Nat) (i j : Nat) : Nat → Nat := fun k => if i ≤ k ∧ k < i + j then cv p f g (i + 1) k else cv p f g i k
theorem cvr_zero (p : Nat) (f g : Nat → Nat) (i k : Nat) : cvr p f g i 0 k = cv p f g i k := by
  unfold cvr; rw [if_neg (by omega)]
theorem cvr_at (p : Nat) (f g : Nat → Nat) (i j : Nat) : cvr p f g i j (i + j) = cv p f g i (i + j) := by
  unfold cvr; rw [if_neg (by omega)]
theorem cvr_next (p : Nat) (f g : Nat → Nat) (i j : Nat) : ∀ k, upd (cvr p f g i j) (i + j) (cv p f g (i + 1) (i + j)) k = cvr p f g i (j + 1) k := by
  intro k
  unfold upd cvr
  by_cases h : k = i + j
  · subst h; rw [if_pos rfl, if_pos (by omega)]
  · rw [if_neg h]
    by_cases h2 : i ≤ k ∧ k < i + j
    · rw [if_pos h2, if_pos (by omega)]
    · rw [if_neg h2, if_neg (by omega)]
theorem cvr_full {p : Nat} {f g : Nat → Nat} (hp : 0 < p) {i m : Nat} (hg : ∀ j, m ≤ j → g j = 0) (k : Nat) : cvr p f g i m k = cv p f g (i + 1) k := by
  unfold cvr
  by_cases h : i ≤ k ∧ k < i + m
  · rw [if_pos h]
  · rw [if_neg h]
    symm
    apply cv_same hp
    intro hik
    rw [hg (k - i) (by omega), Nat.mul_zero]
theorem cv_skip {p : Nat} {f g : Nat → Nat} (hp : 0 < p) {i : Nat} (hf : f i = 0) (k : Nat) : cv p f g (i + 1) k = cv p f g i k :=
  cv_same hp (fun _ => by rw [hf, Nat.zero_mul])
theorem cv_stop {p : Nat} {f g : Nat → Nat} (hp : 0 < p) {n : Nat} (hf : ∀ i, n ≤ i → f i = 0) (k : Nat) : ∀ d, cv p f g (n + d) k = cv p f g n k
  | 0 => rfl
  | d + 1 => by
    rw [show n + (d + 1) = (n + d) + 1 by omega, cv_skip hp (hf _ (by omega)), cv_stop hp hf k d]
/-- the product -/
def prd (p : Nat) (f g : Nat → Nat) : Nat → Nat := fun k => cv p (cut f) (cut g) 64 k
theorem cut_zero (f : Nat → Nat) {i : Nat} (h : 64 ≤ i) : cut f i = 0 := by unfold cut; rw [if_neg (by omega)]
theorem cut_in (f : Nat → Nat) {i : Nat} (h : i < 64) : cut f i = f i := by unfold cut; rw [if_pos h]
theorem prd_rows {p : Nat} {f g : Nat → Nat} (hp : 0 < p) {n : Nat} (hn : n ≤ 64) (hf : ∀ i, n ≤ i → i < 64 → f i = 0) (k : Nat) : prd p f g k = cv p (cut f) (cut g) n k := by
  have := cv_stop (f := cut f) (g := cut g) hp (n := n) (fun i hi => by
    by_cases h : i < 64
    · rw [cut_in f h]; exact hf i hi h
    · exact cut_zero f (by omega)) k (64 - n)
  rw [show n + (64 - n) = 64 by omega] at this
  exact this
end Go.Proofs.Ytbjpkmbhbpcbgaa
