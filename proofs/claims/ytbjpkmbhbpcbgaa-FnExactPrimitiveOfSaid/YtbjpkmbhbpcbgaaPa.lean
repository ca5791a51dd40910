/-
  Plain mathematics: some residue is no root of 1 of a lesser order.
-/
import Derived.Test.YtbjpkmbhbpcbgaaMa
set_option linter.unusedVariables false
namespace Go.Proofs.Ytbjpkmbhbpcbgaa
namespace Rg
variable {R : Type} [Rg R]
/-- as many as are covered by roots of powers -/
theorem filt_two {α : Type} (P : α → Bool) : ∀ l : List α, l.length = (l.filter P).length + (l.filter fun x => !P x).length
  | [] => rfl
  | a :: l => by
    have := filt_two P l
    cases h : P a <;> simp [h] <;> omega
theorem polF_at (v : R) (n : Nat) : PolF (n + 1) (e : R) (fun x => -v + pw x (n + 1)) := polF_step (-v) (polF_pw n)
theorem cover (dom : ∀ a b : R, a * b = o → a = o ∨ b = o) (hne : (e : R) ≠ o) : ∀ (cs : List (Nat × R)) (L : List R), (∀ c ∈ cs, 1 ≤ c.1) → L.Nodup → (∀ x ∈ L, ∃ c ∈ cs, pw x c.1 = c.2) → L.length ≤ (cs.map (·.1)).sum
  | [], L, _, _, h => by
    cases L with
    | nil => exact Nat.zero_le _
    | cons a l => obtain ⟨c, hc, _⟩ := h a (by simp); exact absurd hc (by simp)
  | c :: cs, L, h1, hn, h => by
    open Classical in
    have e1 := filt_two (fun x => decide (pw x c.1 = c.2)) L
    obtain ⟨n, hn1⟩ : ∃ n, c.1 = n + 1 := ⟨c.1 - 1, by have := h1 c (by simp); omega⟩
    have a1 := roots_le dom (n + 1) (polF_at c.2 n) hne (L.filter fun x => decide (pw x c.1 = c.2)) (hn.filter _) (fun x hx => by
      have := (List.mem_filter.1 hx).2
      rw [decide_eq_true_eq, hn1] at this
      show -c.2 + pw x (n + 1) = o
      rw [this, nadd])
    have a2 := cover dom hne cs (L.filter fun x => !decide (pw x c.1 = c.2)) (fun c hc => h1 c (by simp [hc])) (hn.filter _) (fun x hx => by
      obtain ⟨h3, h4⟩ := List.mem_filter.1 hx
      obtain ⟨c', hc', he⟩ := h x h3
      rcases List.mem_cons.1 hc' with h5 | h5
      · rw [h5] at he; rw [he] at h4; simp at h4
      · exact ⟨c', h5, he⟩)
    rw [List.map_cons, List.sum_cons]
    omega
/-- the power 800 is 1: the power 1200 is 1, or the power 400 is -1 -/
theorem two_three (dom : ∀ a b : R, a * b = o → a = o ∨ b = o) {x : R} {n : Nat} (h : pw x (n * 2) = e) : pw x (n * 3) = e ∨ pw x n = -e := by
  obtain ⟨u, hu⟩ : ∃ u, u = pw x n := ⟨_, rfl⟩
  rw [← pw_pw, ← hu] at h ⊢
  have h2 : u * u = e := by
    have : pw u 2 = u * (u * e) := rfl
    rw [this, mule] at h; exact h
  have h3 : (-e + u) * (e + u) = o := by
    rw [madd, mule, addm, h2]
    have : -e * u = -u := by
      have h4 : u + -e * u = u + -u := by
        have h5 : u + -e * u = (e + -e) * u := by rw [addm, emul]
        rw [h5, acomm e, nadd, omul, acomm u, nadd]
      exact cancel h4
    rw [this, aassoc, ← aassoc u, acomm u (-u), nadd, oadd, nadd]
  rcases dom _ _ h3 with h4 | h4
  · left
    have : u = e := by
      have h5 : -e + u = -e + e := by rw [h4, nadd]
      exact cancel h5
    rw [this]; exact pw_one 3
  · right
    have h5 : e + u = e + -e := by rw [h4, acomm e, nadd]
    exact cancel h5
end Rg
/-- divisors of a product of primes -/
theorem strip {r q n : Nat} (hr : ∀ a, a ∣ r → a = 1 ∨ a = r) (h : q ∣ r * n) : r ∣ q ∨ q ∣ n := by
  rcases hr (Nat.gcd q r) (Nat.gcd_dvd_right _ _) with h1 | h1
  · exact .inr (Nat.Coprime.dvd_of_dvd_mul_left h1 h)
  · exact .inl (by rw [← h1]; exact Nat.gcd_dvd_left _ _)
def prd1 (l : List Nat) : Nat := l.foldr (· * ·) 1
theorem strips : ∀ (l : List Nat) (q : Nat), (∀ r ∈ l, ∀ a, a ∣ r → a = 1 ∨ a = r) → 2 ≤ q → q ∣ prd1 l → ∃ r ∈ l, r ∣ q
  | [], q, _, h2, h => by
    have := Nat.le_of_dvd (by decide) h
    have e : prd1 [] = 1 := rfl
    omega
  | r :: l, q, hr, h2, h => by
    rcases strip (hr r (by simp)) (show q ∣ r * prd1 l from h) with h3 | h3
    · exact ⟨r, by simp, h3⟩
    · obtain ⟨r', h4, h5⟩ := strips l q (fun r h => hr r (by simp [h])) h2 h3
      exact ⟨r', by simp [h4], h5⟩
theorem prime_by {r : Nat} (hr : 1 < r) (h : ∀ a, a < r + 1 → (a = 1 ∨ a = r ∨ r % a ≠ 0)) : ∀ a, a ∣ r → a = 1 ∨ a = r := by
  intro a ha
  have h1 := Nat.le_of_dvd (by omega) ha
  rcases h a (by omega) with h2 | h2 | h2
  · exact .inl h2
  · exact .inr h2
  · exact absurd (Nat.mod_eq_zero_of_dvd ha) h2
theorem pr2 : ∀ a, a ∣ 2 → a = 1 ∨ a = 2 := prime_by (by decide) (by decide)
theorem pr3 : ∀ a, a ∣ 3 → a = 1 ∨ a = 3 := prime_by (by decide) (by decide)
theorem pr5 : ∀ a, a ∣ 5 → a = 1 ∨ a = 5 := prime_by (by decide) (by decide)
theorem pr7 : ∀ a, a ∣ 7 → a = 1 ∨ a = 7 := prime_by (by decide) (by decide)
theorem pr11 : ∀ a, a ∣ 11 → a = 1 ∨ a = 11 := prime_by (by decide) (by decide)
theorem pr13 : ∀ a, a ∣ 13 → a = 1 ∨ a = 13 := prime_by (by decide) (by decide)
theorem pr19 : ∀ a, a ∣ 19 → a = 1 ∨ a = 19 := prime_by (by decide) (by decide)
theorem pr31 : ∀ a, a ∣ 31 → a = 1 ∨ a = 31 := prime_by (by decide) (by decide)
theorem prime_sq {r s : Nat} (hr : 0 < r) (hs : r < s * s) (h : ∀ a, a < s → (a = 1 ∨ r % a ≠ 0)) : ∀ a, a ∣ r → a = 1 ∨ a = r := by
  intro a ha
  obtain ⟨b, hb⟩ := ha
  by_cases h1 : a < s
  · rcases h a h1 with h2 | h2
    · exact .inl h2
    · exact absurd (Nat.mod_eq_zero_of_dvd ⟨b, hb⟩) h2
  · by_cases h3 : b < s
    · rcases h b h3 with h2 | h2
      · right; rw [hb, h2, Nat.mul_one]
      · exact absurd (Nat.mod_eq_zero_of_dvd ⟨a, by rw [hb, Nat.mul_comm]⟩) h2
    · exfalso
      have := Nat.mul_le_mul (Nat.le_of_not_lt h1) (Nat.le_of_not_lt h3)
      omega
theorem pr71 : ∀ a, a ∣ 71 → a = 1 ∨ a = 71 := prime_sq (s := 9) (by decide) (by decide) (by decide)
theorem pr2801 : ∀ a, a ∣ 2801 → a = 1 ∨ a = 2801 := prime_sq (s := 53) (by decide) (by decide) (by decide)
/-- the primes, with their powers, of p^d - 1 -/
def pfL (p d : Nat) : List Nat :=
  match p, d with
  | 2, 1 => [] | 2, 2 => [3] | 2, 3 => [7] | 2, 4 => [3, 5] | 2, 5 => [31]
  | 3, 1 => [2] | 3, 2 => [2, 2, 2] | 3, 3 => [2, 13] | 3, 4 => [2, 2, 2, 2, 5] | 3, 5 => [2, 11, 11]
  | 5, 1 => [2, 2] | 5, 2 => [2, 2, 2, 3] | 5, 3 => [2, 2, 31] | 5, 4 => [2, 2, 2, 2, 3, 13] | 5, 5 => [2, 2, 11, 71]
  | 7, 1 => [2, 3] | 7, 2 => [2, 2, 2, 2, 3] | 7, 3 => [2, 3, 3, 19] | 7, 4 => [2, 2, 2, 2, 2, 3, 5, 5] | 7, 5 => [2, 3, 2801]
  | _, _ => []
theorem pfL_prd {p d : Nat} (hp : p = 2 ∨ p = 3 ∨ p = 5 ∨ p = 7) (h1 : 1 ≤ d) (h5 : d ≤ 5) : prd1 (pfL p d) = p ^ d - 1 := by
  have : d = 1 ∨ d = 2 ∨ d = 3 ∨ d = 4 ∨ d = 5 := by omega
  rcases hp with rfl | rfl | rfl | rfl <;> rcases this with rfl | rfl | rfl | rfl | rfl <;> rfl
theorem pfL_prime {p d : Nat} : ∀ r ∈ pfL p d, ∀ a, a ∣ r → a = 1 ∨ a = r := by
  intro r hr
  have : r ∈ [2, 3, 5, 7, 11, 13, 19, 31, 71, 2801] := by
    unfold pfL at hr
    split at hr <;> first | (simp only [List.mem_cons, List.not_mem_nil, or_false] at hr ⊢; omega) | (cases hr)
  simp only [List.mem_cons, List.not_mem_nil, or_false] at this
  rcases this with rfl | rfl | rfl | rfl | rfl | rfl | rfl | rfl | rfl | rfl
  · exact pr2
  · exact pr3
  · exact pr5
  · exact pr7
  · exact pr11
  · exact pr13
  · exact pr19
  · exact pr31
  · exact pr71
  · exact pr2801
namespace Rg
variable {R : Type} [Rg R]
/-- the roots that some primitive residue is none of -/
def cvL (p d : Nat) : List (Nat × R) :=
  if p = 7 ∧ d = 4 then [(1200, e), (400, -e), (480, e)] else ((pfL p d).eraseDups).map fun r => ((p ^ d - 1) / r, e)
theorem eD_mem {l : List Nat} {r : Nat} (h : r ∈ l) : r ∈ l.eraseDups := by simpa using h
theorem cvL_sum {p d : Nat} (hp : p = 2 ∨ p = 3 ∨ p = 5 ∨ p = 7) (h1 : 1 ≤ d) (h5 : d ≤ 5) : ((cvL p d : List (Nat × R)).map (·.1)).sum < p ^ d - 1 := by
  have : d = 1 ∨ d = 2 ∨ d = 3 ∨ d = 4 ∨ d = 5 := by omega
  rcases hp with rfl | rfl | rfl | rfl <;> rcases this with rfl | rfl | rfl | rfl | rfl <;> simp [cvL, pfL, List.eraseDups, List.eraseDupsBy, List.eraseDupsBy.loop]
theorem cvL_pos {p d : Nat} (hp : p = 2 ∨ p = 3 ∨ p = 5 ∨ p = 7) (h1 : 1 ≤ d) (h5 : d ≤ 5) : ∀ c ∈ (cvL p d : List (Nat × R)), 1 ≤ c.1 := by
  have : d = 1 ∨ d = 2 ∨ d = 3 ∨ d = 4 ∨ d = 5 := by omega
  rcases hp with rfl | rfl | rfl | rfl <;> rcases this with rfl | rfl | rfl | rfl | rfl <;> simp [cvL, pfL, List.eraseDups, List.eraseDupsBy, List.eraseDupsBy.loop]
theorem cvL_cov (dom : ∀ a b : R, a * b = o → a = o ∨ b = o) {p d r : Nat} {x : R} (hp : p = 2 ∨ p = 3 ∨ p = 5 ∨ p = 7) (h1 : 1 ≤ d) (h5 : d ≤ 5) (hr : r ∈ pfL p d) (hx : pw x ((p ^ d - 1) / r) = e) : ∃ c ∈ (cvL p d : List (Nat × R)), pw x c.1 = c.2 := by
  unfold cvL
  by_cases h : p = 7 ∧ d = 4
  · rw [if_pos h]
    obtain ⟨rfl, rfl⟩ := h
    have : r = 2 ∨ r = 3 ∨ r = 5 := by simp [pfL] at hr; omega
    rcases this with rfl | rfl | rfl
    · exact ⟨(1200, e), by simp, hx⟩
    · rcases two_three dom (n := 400) (x := x) hx with h | h
      · exact ⟨(1200, e), by simp, h⟩
      · exact ⟨(400, -e), by simp, h⟩
    · exact ⟨(480, e), by simp, hx⟩
  · rw [if_neg h]
    exact ⟨_, List.mem_map.2 ⟨r, eD_mem hr, rfl⟩, hx⟩
/-- some residue of a full list is no such root -/
theorem prim_some (dom : ∀ a b : R, a * b = o → a = o ∨ b = o) (hne : (e : R) ≠ o) {p d : Nat} (hp : p = 2 ∨ p = 3 ∨ p = 5 ∨ p = 7) (h1 : 1 ≤ d) (h5 : d ≤ 5) (L : List R) (hn : L.Nodup) (hl : L.length = p ^ d - 1) :
    ∃ x ∈ L, ∀ q, 2 ≤ q → q ∣ p ^ d - 1 → pw x ((p ^ d - 1) / q) ≠ e := by
  apply Classical.byContradiction
  intro hno
  have hcov : ∀ x ∈ L, ∃ c ∈ (cvL p d : List (Nat × R)), pw x c.1 = c.2 := by
    intro x hx
    apply Classical.byContradiction
    intro hc
    apply hno
    refine ⟨x, hx, fun q h2 hq he => hc ?_⟩
    obtain ⟨r, hr, hrq⟩ := strips (pfL p d) q pfL_prime h2 (by rw [pfL_prd hp h1 h5]; exact hq)
    refine cvL_cov dom hp h1 h5 hr ?_
    obtain ⟨c, rfl⟩ := hrq
    obtain ⟨t, ht⟩ := hq
    have hr0 : 0 < r := by
      rcases Nat.eq_zero_or_pos r with h | h
      · subst h; omega
      · exact h
    have hc0 : 0 < c := by
      rcases Nat.eq_zero_or_pos c with h | h
      · subst h; omega
      · exact h
    rw [ht, Nat.mul_div_cancel_left t (by omega)] at he
    rw [ht, Nat.mul_assoc, Nat.mul_div_cancel_left _ hr0, Nat.mul_comm, ← pw_pw, he, pw_one]
  have := cover dom hne _ L (cvL_pos hp h1 h5) hn hcov
  have := cvL_sum (R := R) hp h1 h5
  omega
end Rg
end Go.Proofs.Ytbjpkmbhbpcbgaa
