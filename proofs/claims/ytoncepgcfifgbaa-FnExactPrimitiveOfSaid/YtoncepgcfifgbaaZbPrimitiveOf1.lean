/-
  What the rows of this claim rest on: arrays of bytes, walks of the functions, plain mathematics.
-/
import Derived.Test.YtoncepgcfifgbaaZb7
import Derived.WalkKit
import Derived.WalkSpells
import Derived.WalkLawsBesides
import Derived.Lib.Hide
import Derived.Laws.Rows
import Derived.Laws.CopyOwn
import Derived.Deep.QuietTactic
import Derived.Deep.WholeRow
import Derived.Deep.Draws
import Derived.Deep.MidRow
import Derived.Deep.CutRange
import Derived.Deep.DeepCutAuto
import Derived.Deep.RegionHeld3
import Derived.BigQuiet
import Derived.BigRegion
import Derived.Test.YtoncepgcfifgbaaRows
import Derived.Great.BuildSlice
import Derived.Laws.Tables
import Derived.Laws.StructEq
import Derived.ScopeJumps
import Derived.Deep.CutBlock
import Derived.OwnWalk
import Derived.RangeFuncNested
import Derived.RangeFuncBound
import Derived.RangeFuncCalls
import Derived.RangeFuncLeaves
import Derived.Shelf.Abstract
import Derived.Shelf.RegionOpen
import Derived.OwnWalkIn
import Derived.TacticsInMore
import Derived.LoopNIn
import Derived.LoopIn
import Derived.Maps.OwnOps
import Derived.DeepKeys4
import Derived.Carry
import Derived.Test.YtoncepgcfifgbaaProg
section
namespace Go.Proofs.Ytoncepgcfifgbaa
open Go.RowKit
theorem Blk.there {w : World} {b n : Nat} {t : TypeId} {f : Nat → Nat} (h : Blk w b n t f) : w.there b 0 n := by
 intro j hj
 rw [Nat.zero_add, h.cell hj]
 exact ⟨rfl, h.frozen j⟩

end Go.Proofs.Ytoncepgcfifgbaa
end
section
set_option linter.unusedVariables false
namespace Go.Proofs.Ytoncepgcfifgbaa
namespace Rg
variable {R : Type} [Rg R]
/-- as many as are covered by roots of powers -/
theorem filt_two {α : Type} (P : α → Bool) : ∀ l : List α, l.length = (l.filter P).length + (l.filter fun x => !P x).length
 | [] => rfl
 | a :: l => by
  have := filt_two P l
  cases h : P a <;> simp [h] <;> omega
theorem polF_at (v : R) (n : Nat) : PolF (n + 1) (e : R) (fun x => -v + pw x (n + 1)) := polF_step (-v) (polF_pw n)
theorem cover (dom : ∀ a b : R, a * b = o → a = o ∨ b = o) (hne : (e : R) ≠ o) : ∀ (cs : List (Nat × R)) (L : List R), (∀ c ∈ cs, 1 ≤ c.1) → L.Nodup → (∀ x ∈ L, ∃ c ∈ cs, pw x c.1 = c.2) → L.length ≤ (cs.map (·.1)).sum
 | [], L, _, _, h => by
  cases L with
  | nil => exact Nat.zero_le _
  | cons a l => obtain ⟨c, hc, _⟩ := h a (by simp); exact absurd hc (by simp)
 | c :: cs, L, h1, hn, h => by
  open Classical in
  have e1 := filt_two (fun x => decide (pw x c.1 = c.2)) L
  obtain ⟨n, hn1⟩ : ∃ n, c.1 = n + 1 := ⟨c.1 - 1, by have := h1 c (by simp); omega⟩
  have a1 := roots_le dom (n + 1) (polF_at c.2 n) hne (L.filter fun x => decide (pw x c.1 = c.2)) (hn.filter _) (fun x hx => by
   have := (List.mem_filter.1 hx).2
   rw [decide_eq_true_eq, hn1] at this
   show -c.2 + pw x (n + 1) = o
   rw [this, nadd])
  have a2 := cover dom hne cs (L.filter fun x => !decide (pw x c.1 = c.2)) (fun c hc => h1 c (by simp [hc])) (hn.filter _) (fun x hx => by
   obtain ⟨h3, h4⟩ := List.mem_filter.1 hx
   obtain ⟨c', hc', he⟩ := h x h3
   rcases List.mem_cons.1 hc' with h5 | h5
   · rw [h5] at he; rw [he] at h4; simp at h4
   · exact ⟨c', h5, he⟩)
  rw [List.map_cons, List.sum_cons]
  omega
/-- the power 800 is 1: the power 1200 is 1, or the power 400 is -1 -/
theorem two_three (dom : ∀ a b : R, a * b = o → a = o ∨ b = o) {x : R} {n : Nat} (h : pw x (n * 2) = e) : pw x (n * 3) = e ∨ pw x n = -e := by
 obtain ⟨u, hu⟩ : ∃ u, u = pw x n := ⟨_, rfl⟩
 rw [← pw_pw, ← hu] at h ⊢
 have h2 : u * u = e := by
  have : pw u 2 = u * (u * e) := rfl
  rw [this, mule] at h; exact h
 have h3 : (-e + u) * (e + u) = o := by
  rw [madd, mule, addm, h2]
  have : -e * u = -u := by
   have h4 : u + -e * u = u + -u := by
    have h5 : u + -e * u = (e + -e) * u := by rw [addm, emul]
    rw [h5, acomm e, nadd, omul, acomm u, nadd]
   exact cancel h4
  rw [this, aassoc, ← aassoc u, acomm u (-u), nadd, oadd, nadd]
 rcases dom _ _ h3 with h4 | h4
 · left
   have : u = e := by
    have h5 : -e + u = -e + e := by rw [h4, nadd]
    exact cancel h5
   rw [this]; exact pw_one 3
 · right
   have h5 : e + u = e + -e := by rw [h4, acomm e, nadd]
   exact cancel h5
end Rg
/-- divisors of a product of primes -/
theorem strip {r q n : Nat} (hr : ∀ a, a ∣ r → a = 1 ∨ a = r) (h : q ∣ r * n) : r ∣ q ∨ q ∣ n := by
 rcases hr (Nat.gcd q r) (Nat.gcd_dvd_right _ _) with h1 | h1
 · exact .inr (Nat.Coprime.dvd_of_dvd_mul_left h1 h)
 · exact .inl (by rw [← h1]; exact Nat.gcd_dvd_left _ _)
def prd1 (l : List Nat) : Nat := l.foldr (· * ·) 1
theorem strips : ∀ (l : List Nat) (q : Nat), (∀ r ∈ l, ∀ a, a ∣ r → a = 1 ∨ a = r) → 2 ≤ q → q ∣ prd1 l → ∃ r ∈ l, r ∣ q
 | [], q, _, h2, h => by
  have := Nat.le_of_dvd (by decide) h
  have e : prd1 [] = 1 := rfl
  omega
 | r :: l, q, hr, h2, h => by
  rcases strip (hr r (by simp)) (show q ∣ r * prd1 l from h) with h3 | h3
  · exact ⟨r, by simp, h3⟩
  · obtain ⟨r', h4, h5⟩ := strips l q (fun r h => hr r (by simp [h])) h2 h3
    exact ⟨r', by simp [h4], h5⟩
theorem prime_by {r : Nat} (hr : 1 < r) (h : ∀ a, a < r + 1 → (a = 1 ∨ a = r ∨ r % a ≠ 0)) : ∀ a, a ∣ r → a = 1 ∨ a = r := by
 intro a ha
 have h1 := Nat.le_of_dvd (by omega) ha
 rcases h a (by omega) with h2 | h2 | h2
 · exact .inl h2
 · exact .inr h2
 · exact absurd (Nat.mod_eq_zero_of_dvd ha) h2
theorem pr2 : ∀ a, a ∣ 2 → a = 1 ∨ a = 2 := prime_by (by decide) (by decide)
theorem pr3 : ∀ a, a ∣ 3 → a = 1 ∨ a = 3 := prime_by (by decide) (by decide)
theorem pr5 : ∀ a, a ∣ 5 → a = 1 ∨ a = 5 := prime_by (by decide) (by decide)
theorem pr7 : ∀ a, a ∣ 7 → a = 1 ∨ a = 7 := prime_by (by decide) (by decide)
theorem pr11 : ∀ a, a ∣ 11 → a = 1 ∨ a = 11 := prime_by (by decide) (by decide)
theorem pr13 : ∀ a, a ∣ 13 → a = 1 ∨ a = 13 := prime_by (by decide) (by decide)
theorem pr19 : ∀ a, a ∣ 19 → a = 1 ∨ a = 19 := prime_by (by decide) (by decide)
theorem pr31 : ∀ a, a ∣ 31 → a = 1 ∨ a = 31 := prime_by (by decide) (by decide)
theorem prime_sq {r s : Nat} (hr : 0 < r) (hs : r < s * s) (h : ∀ a, a < s → (a = 1 ∨ r % a ≠ 0)) : ∀ a, a ∣ r → a = 1 ∨ a = r := by
 intro a ha
 obtain ⟨b, hb⟩ := ha
 by_cases h1 : a < s
 · rcases h a h1 with h2 | h2
   · exact .inl h2
   · exact absurd (Nat.mod_eq_zero_of_dvd ⟨b, hb⟩) h2
 · by_cases h3 : b < s
   · rcases h b h3 with h2 | h2
     · right; rw [hb, h2, Nat.mul_one]
     · exact absurd (Nat.mod_eq_zero_of_dvd ⟨a, by rw [hb, Nat.mul_comm]⟩) h2
   · exfalso
     have := Nat.mul_le_mul (Nat.le_of_not_lt h1) (Nat.le_of_not_lt h3)
     omega
theorem pr71 : ∀ a, a ∣ 71 → a = 1 ∨ a = 71 := prime_sq (s := 9) (by decide) (by decide) (by decide)
theorem pr2801 : ∀ a, a ∣ 2801 → a = 1 ∨ a = 2801 := prime_sq (s := 53) (by decide) (by decide) (by decide)
/-- the primes, with their powers, of p^d - 1 -/
def pfL (p d : Nat) : List Nat :=
 match p, d with
 | 2, 1 => [] | 2, 2 => [3] | 2, 3 => [7] | 2, 4 => [3, 5] | 2, 5 => [31]
 | 3, 1 => [2] | 3, 2 => [2, 2, 2] | 3, 3 => [2, 13] | 3, 4 => [2, 2, 2, 2, 5] | 3, 5 => [2, 11, 11]
 | 5, 1 => [2, 2] | 5, 2 => [2, 2, 2, 3] | 5, 3 => [2, 2, 31] | 5, 4 => [2, 2, 2, 2, 3, 13] | 5, 5 => [2, 2, 11, 71]
 | 7, 1 => [2, 3] | 7, 2 => [2, 2, 2, 2, 3] | 7, 3 => [2, 3, 3, 19] | 7, 4 => [2, 2, 2, 2, 2, 3, 5, 5] | 7, 5 => [2, 3, 2801]
 | _, _ => []
theorem pfL_prd {p d : Nat} (hp : p = 2 ∨ p = 3 ∨ p = 5 ∨ p = 7) (h1 : 1 ≤ d) (h5 : d ≤ 5) : prd1 (pfL p d) = p ^ d - 1 := by
 have : d = 1 ∨ d = 2 ∨ d = 3 ∨ d = 4 ∨ d = 5 := by omega
 rcases hp with rfl | rfl | rfl | rfl <;> rcases this with rfl | rfl | rfl | rfl | rfl <;> rfl
theorem pfL_prime {p d : Nat} : ∀ r ∈ pfL p d, ∀ a, a ∣ r → a = 1 ∨ a = r := by
 intro r hr
 have : r ∈ [2, 3, 5, 7, 11, 13, 19, 31, 71, 2801] := by
  unfold pfL at hr
  split at hr <;> first | (simp only [List.mem_cons, List.not_mem_nil, or_false] at hr ⊢; omega) | (cases hr)
 simp only [List.mem_cons, List.not_mem_nil, or_false] at this
 rcases this with rfl | rfl | rfl | rfl | rfl | rfl | rfl | rfl | rfl | rfl
 · exact pr2
 · exact pr3
 · exact pr5
 · exact pr7
 · exact pr11
 · exact pr13
 · exact pr19
 · exact pr31
 · exact pr71
 · exact pr2801
namespace Rg
variable {R : Type} [Rg R]
/-- the roots that some primitive residue is none of -/
def cvL (p d : Nat) : List (Nat × R) :=
 if p = 7 ∧ d = 4 then [(1200, e), (400, -e), (480, e)] else ((pfL p d).eraseDups).map fun r => ((p ^ d - 1) / r, e)
theorem eD_mem {l : List Nat} {r : Nat} (h : r ∈ l) : r ∈ l.eraseDups := by simpa using h
theorem cvL_sum {p d : Nat} (hp : p = 2 ∨ p = 3 ∨ p = 5 ∨ p = 7) (h1 : 1 ≤ d) (h5 : d ≤ 5) : ((cvL p d : List (Nat × R)).map (·.1)).sum < p ^ d - 1 := by
 have : d = 1 ∨ d = 2 ∨ d = 3 ∨ d = 4 ∨ d = 5 := by omega
 rcases hp with rfl | rfl | rfl | rfl <;> rcases this with rfl | rfl | rfl | rfl | rfl <;> simp [cvL, pfL, List.eraseDups, List.eraseDupsBy, List.eraseDupsBy.loop]
theorem cvL_pos {p d : Nat} (hp : p = 2 ∨ p = 3 ∨ p = 5 ∨ p = 7) (h1 : 1 ≤ d) (h5 : d ≤ 5) : ∀ c ∈ (cvL p d : List (Nat × R)), 1 ≤ c.1 := by
 have : d = 1 ∨ d = 2 ∨ d = 3 ∨ d = 4 ∨ d = 5 := by omega
 rcases hp with rfl | rfl | rfl | rfl <;> rcases this with rfl | rfl | rfl | rfl | rfl <;> simp [cvL, pfL, List.eraseDups, List.eraseDupsBy, List.eraseDupsBy.loop]
theorem cvL_cov (dom : ∀ a b : R, a * b = o → a = o ∨ b = o) {p d r : Nat} {x : R} (hp : p = 2 ∨ p = 3 ∨ p = 5 ∨ p = 7) (h1 : 1 ≤ d) (h5 : d ≤ 5) (hr : r ∈ pfL p d) (hx : pw x ((p ^ d - 1) / r) = e) : ∃ c ∈ (cvL p d : List (Nat × R)), pw x c.1 = c.2 := by
 unfold cvL
 by_cases h : p = 7 ∧ d = 4
 · rw [if_pos h]
   obtain ⟨rfl, rfl⟩ := h
   have : r = 2 ∨ r = 3 ∨ r = 5 := by simp [pfL] at hr; omega
   rcases this with rfl | rfl | rfl
   · exact ⟨(1200, e), by simp, hx⟩
   · rcases two_three dom (n := 400) (x := x) hx with h | h
     · exact ⟨(1200, e), by simp, h⟩
     · exact ⟨(400, -e), by simp, h⟩
   · exact ⟨(480, e), by simp, hx⟩
 · rw [if_neg h]
   exact ⟨_, List.mem_map.2 ⟨r, eD_mem hr, rfl⟩, hx⟩
/-- some residue of a full list is no such root -/
theorem prim_some (dom : ∀ a b : R, a * b = o → a = o ∨ b = o) (hne : (e : R) ≠ o) {p d : Nat} (hp : p = 2 ∨ p = 3 ∨ p = 5 ∨ p = 7) (h1 : 1 ≤ d) (h5 : d ≤ 5) (L : List R) (hn : L.Nodup) (hl : L.length = p ^ d - 1) :
 ∃ x ∈ L, ∀ q, 2 ≤ q → q ∣ p ^ d - 1 → pw x ((p ^ d - 1) / q) ≠ e := by
 apply Classical.byContradiction
 intro hno
 have hcov : ∀ x ∈ L, ∃ c ∈ (cvL p d : List (Nat × R)), pw x c.1 = c.2 := by
  intro x hx
  apply Classical.byContradiction
  intro hc
  apply hno
  refine ⟨x, hx, fun q h2 hq he => hc ?_⟩
  obtain ⟨r, hr, hrq⟩ := strips (pfL p d) q pfL_prime h2 (by rw [pfL_prd hp h1 h5]; exact hq)
  refine cvL_cov dom hp h1 h5 hr ?_
  obtain ⟨c, rfl⟩ := hrq
  obtain ⟨t, ht⟩ := hq
  have hr0 : 0 < r := by
   rcases Nat.eq_zero_or_pos r with h | h
   · subst h; omega
   · exact h
  have hc0 : 0 < c := by
   rcases Nat.eq_zero_or_pos c with h | h
   · subst h; omega
   · exact h
  rw [ht, Nat.mul_div_cancel_left t (by omega)] at he
  rw [ht, Nat.mul_assoc, Nat.mul_div_cancel_left _ hr0, Nat.mul_comm, ← pw_pw, he, pw_one]
 have := cover dom hne _ L (cvL_pos hp h1 h5) hn hcov
 have := cvL_sum (R := R) hp h1 h5
 omega
end Rg
end Go.Proofs.Ytoncepgcfifgbaa
end
section
set_option linter.unusedVariables false
namespace Go.Proofs.Ytoncepgcfifgbaa
open Rg
theorem ofN_small {p d N k : Nat} (hp : 2 ≤ p) (h : N < p ^ d) (hk : d ≤ k) : ofN p N k = 0 := by
 unfold ofN dgt
 rw [Nat.div_eq_of_lt (Nat.lt_of_lt_of_le h (Nat.pow_le_pow_right (by omega) hk))]
 exact Nat.zero_mod _
/-- some residue is no root of 1 of a lesser order -/
theorem prim_res {p d : Nat} {m : Nat → Nat} (hp : p = 2 ∨ p = 3 ∨ p = 5 ∨ p = 7) (hm : irr p m d) (h5 : d ≤ 5) :
 ∃ N, 1 ≤ N ∧ N < p ^ d ∧ ∀ q, 2 ≤ q → q ∣ p ^ d - 1 → ¬ rm p (lz m) (pwz (lz (ofN p N)) ((p ^ d - 1) / q)) oneS := by
 have hp0 : 0 < p := by omega
 have hE := irr_euc hp hm
 have hmS := mon_S hm.2.1
 have hd1 := hm.1
 have low : ∀ f g : Nat → Int, (∀ k, 0 ≤ f k ∧ f k < p) → (∀ k, 0 ≤ g k ∧ g k < p) → (∀ k, d ≤ k → f k = 0) → (∀ k, d ≤ k → g k = 0) → rm p (lz m) f g → ∀ k, f k = g k := by
  intro f g hf hg hf0 hg0 h k
  have := rm_unique (d := d) (v := 1) (by rw [hmS.1]; exact ⟨0, by omega⟩) hmS.2 (fun k hk => by rw [hf0 k hk, hg0 k hk]; exact ⟨0, by omega⟩) h k
  have h1 := hf k
  have h2 := hg k
  have := dvd_small this (by omega) (by omega)
  omega
 have lzb : ∀ N k, 0 ≤ lz (ofN p N) k ∧ lz (ofN p N) k < p := by
  intro N k
  unfold lz cut
  split
  · have := ofN_lt hp0 N k; omega
  · omega
 have lz0 : ∀ N, N < p ^ d → ∀ k, d ≤ k → lz (ofN p N) k = 0 := by
  intro N hN k hk
  unfold lz cut
  split
  · rw [ofN_small (by omega) hN hk]; rfl
  · rfl
 obtain ⟨x, hx, hq⟩ := prim_some (R := Res p (lz m)) (p := p) (d := d) (by
  intro a b hab
  induction a using res_ind with | h f hf =>
  induction b using res_ind with | h g hg =>
  have h1 := cl_eq.1 (hab : (cl (mz f g) (fin_mz hf hg) : Res p (lz m)) = cl zS fin_zS)
  rcases hE f g hf hg h1 with h | h
  · exact .inl (cl_eq.2 h)
  · exact .inr (cl_eq.2 h)) (by
  intro h
  have h1 := cl_eq.1 (h : (cl oneS fin_oneS : Res p (lz m)) = cl zS fin_zS)
  have := low oneS zS (fun k => by unfold oneS; split <;> omega) (fun k => by unfold zS; omega) (fun k hk => by unfold oneS; rw [if_neg (by omega)]) (fun k _ => rfl) h1 0
  simp [oneS, zS] at this) hp hd1 h5 ((List.range (p ^ d - 1)).map fun i => cl (lz (ofN p (i + 1))) (fin_lz _)) (by
  rw [List.nodup_iff_pairwise_ne, List.pairwise_map]
  refine List.Pairwise.imp_of_mem ?_ List.pairwise_lt_range
  intro i j hi hj hij heq
  have hi' : i < p ^ d - 1 := by simpa using hi
  have hj' : j < p ^ d - 1 := by simpa using hj
  have h1 := low _ _ (lzb _) (lzb _) (lz0 _ (by omega)) (lz0 _ (by omega)) (cl_eq.1 heq)
  have h2 : ∀ k, k < d → ofN p (i + 1) k = ofN p (j + 1) k := by
   intro k hk
   have := h1 k
   have hd : k < 64 := by omega
   unfold lz cut at this
   rw [if_pos hd, if_pos hd] at this
   omega
  have e1 := vl_ofN hp0 d (i + 1) (by omega)
  have e2 := vl_ofN hp0 d (j + 1) (by omega)
  rw [vl_congr d h2] at e1
  omega) (by simp)
 obtain ⟨i, hi, rfl⟩ := List.mem_map.1 hx
 have hi' : i < p ^ d - 1 := by simpa using hi
 refine ⟨i + 1, by omega, by omega, fun q h2 hq1 hc => hq q h2 hq1 ?_⟩
 have : pw (cl (lz (ofN p (i + 1))) (fin_lz _) : Res p (lz m)) ((p ^ d - 1) / q) = cl (pwz (lz (ofN p (i + 1))) ((p ^ d - 1) / q)) (fin_pwz (fin_lz _) _) := pw_cl (fin_lz _) _
 rw [this]
 exact cl_eq.2 hc
/-- the order stays, if no quotient of it leads to 1 -/
theorem odI_keep {T : Nat → Bool} {E : Nat} (h : ∀ q, 2 ≤ q → q ∣ E → T (E / q) = false) : ∀ f q l, 2 ≤ q → l ∣ E → (odI T f q l E).2 = E ∧ (odI T f q l E).1 ∣ E
 | 0, q, l, h2, hl => ⟨rfl, hl⟩
 | f + 1, q, l, h2, hl => by
  by_cases hq : l % q = 0
  · have hd : q ∣ l := Nat.dvd_of_mod_eq_zero hq
    rw [odI_no hq (h q h2 (Nat.dvd_trans hd hl))]
    exact odI_keep h f q (l / q) h2 (Nat.dvd_trans (Nat.div_dvd_of_dvd hd) hl)
  · rw [odI_stop hq]; exact ⟨rfl, hl⟩
theorem odO_keep {T : Nat → Bool} {E : Nat} (h : ∀ q, 2 ≤ q → q ∣ E → T (E / q) = false) : ∀ f q l, 2 ≤ q → l ∣ E → odO T f q l E = E
 | 0, q, l, h2, hl => rfl
 | f + 1, q, l, h2, hl => by
  by_cases h1 : 1 < l
  · obtain ⟨a, b⟩ := odI_keep h l q l h2 hl
    rw [odO_step h1 (l2 := (odI T l q l E).1) (o2 := E) (Prod.ext rfl a)]
    exact odO_keep h f (q + 1) _ (by omega) b
  · exact odO_stop h1
theorem pw_le5 {p d : Nat} (hp : p = 2 ∨ p = 3 ∨ p = 5 ∨ p = 7) (h5 : d ≤ 5) : p ^ d ≤ 16807 := by
 have h1 : p ^ d ≤ 7 ^ d := Nat.pow_le_pow_left (by omega) d
 have h2 : 7 ^ d ≤ 7 ^ 5 := Nat.pow_le_pow_right (by omega) h5
 have : 7 ^ 5 = 16807 := by decide
 omega
theorem eu_irr {p d : Nat} {m : Nat → Nat} (hp : p = 2 ∨ p = 3 ∨ p = 5 ∨ p = 7) (hm : irr p m d) (h5 : d ≤ 5) : euN p m = p ^ d - 1 := by
 unfold euN
 rw [run_own hp hm 64 1 m (Nat.le_refl _) hm.1 (by omega) (fun k _ => hm.2.2.1 k) hm.2.1.1 (dv_self _)]
 have h1 := mon_ofN (p := p) (n := d) (by omega) (by omega) (mon_num (by omega) hm.2.2.1 hm.2.1).1
 rw [euG, euG, euU, h1.1, Int.toNat_natCast, Nat.sub_self, Nat.mul_zero, Nat.pow_zero, Nat.mul_one, Nat.one_mul]
/-- there is a primitive residue -/
theorem prim_ex {p d : Nat} {m : Nat → Nat} (hp : p = 2 ∨ p = 3 ∨ p = 5 ∨ p = 7) (hm : irr p m d) (h5 : d ≤ 5) : ∃ N, 1 ≤ N ∧ N < p ^ d ∧ odN p (ofN p N) m = p ^ d - 1 := by
 obtain ⟨N, h1, h2, h3⟩ := prim_res hp hm h5
 refine ⟨N, h1, h2, ?_⟩
 unfold odN
 rw [eu_irr hp hm h5]
 refine odO_keep (fun q hq1 hq2 => ?_) _ _ _ (Nat.le_refl _) (Nat.dvd_refl _)
 cases ht : tsT p (ofN p N) m ((p ^ d - 1) / q) with
 | false => rfl
 | true =>
  exfalso
  unfold tsT at ht
  have hle := pw_le5 hp h5
  have hdiv : (p ^ d - 1) / q ≤ p ^ d - 1 := Nat.div_le_self _ _
  have hd0 : 0 ≤ deg m := by rw [hm.2.1.1]; omega
  have := (pmP_spec (k := (p ^ d - 1) / q) hp (fun i _ => ofN_lt (by omega) N i) (fun k _ => hm.2.2.1 k) hd0 (by omega)).2.2
  rw [lz_congr (eqN_iff.1 ht), one_lz] at this
  exact h3 q hq1 hq2 (rm_symm this)
end Go.Proofs.Ytoncepgcfifgbaa
end
section
namespace Go.Proofs.Ytoncepgcfifgbaa
open Go Go.RowKit
set_option linter.unusedVariables false
set_option linter.unusedSimpArgs false
set_option maxRecDepth 100000 in
set_option maxHeartbeats 800000 in
theorem checkPolys_nil (p : Int) (w : World) :
 Calls Try.prog 86 #[.int .i64 p, .slice none 0 0] w fun e w' => e = .returned (.int .i64 (codeL p [])) ∧ Below w.heap.size w w' := by
 cases hp : okP p with
 | false =>
  go_enter Try.func86, Try.ntmps86
  go_wp2_with (go_at_call 101; refine (isPrime_any _ _).mono ?_; rintro e w' ⟨rfl, rfl⟩)
  go_ret
  exact ⟨ret_int (codeL_p hp).symm, Below.refl _ _⟩
 | true =>
  go_enter Try.func86, Try.ntmps86
  go_wp2_with (go_at_call 101; refine (isPrime_any _ _).mono ?_; rintro e w' ⟨rfl, rfl⟩)
  go_loopw [12] (fun i wr => i = .int .i64 ((0 : Nat) : Int) ∧ Below w.heap.size w wr) (fun _ _ => 0)
  case atStart => exact ⟨rfl, Below.refl _ _⟩
  case round =>
   obtain ⟨rfl, hb⟩ := hrel
   go_wp2_with fail
   go_ret
   exact ⟨ret_int (codeL_ok hp fun j f hj => by simp at hj).symm, hb⟩
set_option maxRecDepth 100000 in
set_option maxHeartbeats 800000 in
theorem l01Code_nil (p : Int) (w : World) :
 Calls Try.prog 85 #[.int .i64 p, .slice none 0 0] w fun e w' => e = .returned (.int .i64 (codeL p [])) ∧ Below w.heap.size w w' := by
 cases hp : okP p with
 | false =>
  go_enter Try.func85, Try.ntmps85
  go_wp2_with (go_at_call 98; refine (l01Prime_any _ _).mono ?_; rintro e w' ⟨rfl, rfl⟩)
  go_ret
  exact ⟨ret_int (codeL_p hp).symm, Below.refl _ _⟩
 | true =>
  go_enter Try.func85, Try.ntmps85
  go_wp2_with (go_at_call 98; refine (l01Prime_any _ _).mono ?_; rintro e w' ⟨rfl, rfl⟩)
  go_loopw [5] (fun i wr => i = .int .i64 ((0 : Nat) : Int) ∧ Below w.heap.size w wr) (fun _ _ => 0)
  case atStart => exact ⟨rfl, Below.refl _ _⟩
  case round =>
   obtain ⟨rfl, hb⟩ := hrel
   go_wp2_with fail
   go_ret
   exact ⟨ret_int (codeL_ok hp fun j f hj => by simp at hj).symm, hb⟩
set_option maxRecDepth 100000 in
set_option maxHeartbeats 800000 in
theorem checkModulus_nil (p : Int) (m : Nat → Nat) (hmb : byte m) (w : World) :
 Calls Try.prog 118 #[.int .i64 p, .agg (zb 64 m), .slice none 0 0] w fun e w' => e = .returned (.int .i64 (modV p m [])) ∧ Below w.heap.size w w' := by
 obtain ⟨fb1, fb2⟩ := zdb m
 go_enter Try.func118, Try.ntmps118
 go_upto_region 1 with (fail)
 obtain ⟨W1, hwo⟩ : ∃ v : World, v = (w.alloc (.cells (zb 64 (m)) 23)) := ⟨_, rfl⟩
 have B0 : Blk W1 (w.heap.size) 64 23 (m) := by subst hwo; have := (Blk.new w 64 23 (m)); simpa using this
 have hb : Below w.heap.size w W1 := by subst hwo; exact ((Below.refl _ _).alloc (Nat.le_refl _) _)
 rw [← hwo]
 clear hwo
 rcases codeL_two p [m] with hc1 | hc1
 · rcases codeL_two p [] with hc2 | hc2
   · cases hm5 : monUp 5 m with
     | false =>
      have HV := Lib.hid (modV_3 hc1 hc2 hm5)
      go_upto_region 3 with (first | (refine zla (.tmp 4) B0 Try.underlying23 Try.size23 ?_) | (refine wpList_build_polys rfl 33 _ [m] rfl 23 rfl Try.underlying33 Try.elem23 (by simp) (by simp) rfl ?_; intro wa hwa hps hba; clear hwa) | (go_at_call 86; refine (checkPolys_any p [m] (by simp [hmb]) _ _ hps (by simp)).mono ?_; rintro e W2 ⟨rfl, hbb⟩; replace B0 := B0.below (hba.trans (hbb.mono hba.size)) B0.lt; replace hb := hb.trans ((hba.trans (hbb.mono hba.size)).mono hb.size); clear hps; rw [hc1]) | (go_at_call 86; refine (checkPolys_nil p _).mono ?_; rintro e W3 ⟨rfl, hb3⟩; replace B0 := B0.zw hb3; replace hb := hb.trans (hb3.mono hb.size); rw [hc2]))
      clear hba hbb hb3
      go_upto_region 4 with (first | (refine zla (.tmp 4) B0 Try.underlying23 Try.size23 ?_) | (go_at_call 162; refine (isModulus_any m hmb _).mono ?_; rintro e W2 ⟨rfl, hW2⟩; replace B0 := B0.zw hW2; replace hb := (hb).trans (hW2.mono (hb).size); rw [hm5]))
      go_wp2_with fail
      go_ret
      exact ⟨ret_int HV.out.symm, hb⟩
     | true =>
      have HV := Lib.hid (modV_0 hc1 hc2 hm5)
      go_upto_region 3 with (first | (refine zla (.tmp 4) B0 Try.underlying23 Try.size23 ?_) | (refine wpList_build_polys rfl 33 _ [m] rfl 23 rfl Try.underlying33 Try.elem23 (by simp) (by simp) rfl ?_; intro wa hwa hps hba; clear hwa) | (go_at_call 86; refine (checkPolys_any p [m] (by simp [hmb]) _ _ hps (by simp)).mono ?_; rintro e W2 ⟨rfl, hbb⟩; replace B0 := B0.below (hba.trans (hbb.mono hba.size)) B0.lt; replace hb := hb.trans ((hba.trans (hbb.mono hba.size)).mono hb.size); clear hps; rw [hc1]) | (go_at_call 86; refine (checkPolys_nil p _).mono ?_; rintro e W3 ⟨rfl, hb3⟩; replace B0 := B0.zw hb3; replace hb := hb.trans (hb3.mono hb.size); rw [hc2]))
      clear hba hbb hb3
      go_upto_region 5 with (first | (refine zla (.tmp 4) B0 Try.underlying23 Try.size23 ?_) | (go_at_call 162; refine (isModulus_any m hmb _).mono ?_; rintro e W2 ⟨rfl, hW2⟩; replace B0 := B0.zw hW2; replace hb := (hb).trans (hW2.mono (hb).size); rw [hm5]))
      go_wp2_with fail
      go_ret
      exact ⟨ret_int HV.out.symm, hb⟩
   · have HV := Lib.hid (modV_2 (m := m) hc2)
     go_upto_region 2 with (first | (refine zla (.tmp 4) B0 Try.underlying23 Try.size23 ?_) | (refine wpList_build_polys rfl 33 _ [m] rfl 23 rfl Try.underlying33 Try.elem23 (by simp) (by simp) rfl ?_; intro wa hwa hps hba; clear hwa) | (go_at_call 86; refine (checkPolys_any p [m] (by simp [hmb]) _ _ hps (by simp)).mono ?_; rintro e W2 ⟨rfl, hbb⟩; replace B0 := B0.below (hba.trans (hbb.mono hba.size)) B0.lt; replace hb := hb.trans ((hba.trans (hbb.mono hba.size)).mono hb.size); clear hps; rw [hc1]) | (go_at_call 86; refine (checkPolys_nil p _).mono ?_; rintro e W3 ⟨rfl, hb3⟩; replace B0 := B0.zw hb3; replace hb := hb.trans (hb3.mono hb.size); rw [hc2]))
     go_wp2_with fail
     go_ret
     exact ⟨ret_int HV.out.symm, hb⟩
 · have HV := Lib.hid (modV_1 (fs := []) hc1)
   go_upto_region 2 with (first | (refine zla (.tmp 4) B0 Try.underlying23 Try.size23 ?_) | (refine wpList_build_polys rfl 33 _ [m] rfl 23 rfl Try.underlying33 Try.elem23 (by simp) (by simp) rfl ?_; intro wa hwa hps hba; clear hwa) | (go_at_call 86; refine (checkPolys_any p [m] (by simp [hmb]) _ _ hps (by simp)).mono ?_; rintro e W2 ⟨rfl, hbb⟩; replace B0 := B0.below (hba.trans (hbb.mono hba.size)) B0.lt; replace hb := hb.trans ((hba.trans (hbb.mono hba.size)).mono hb.size); clear hps; rw [hc1]))
   go_wp2_with fail
   go_ret
   exact ⟨ret_int HV.out.symm, hb⟩
set_option maxRecDepth 100000 in
set_option maxHeartbeats 800000 in
theorem l02Modulus_nil (p : Int) (m : Nat → Nat) (hmb : byte m) (w : World) :
 Calls Try.prog 115 #[.int .i64 p, .agg (zb 64 m), .slice none 0 0] w fun e w' => e = .returned (.int .i64 (modV p m [])) ∧ Below w.heap.size w w' := by
 obtain ⟨fb1, fb2⟩ := zdb m
 go_enter Try.func115, Try.ntmps115
 go_upto_region 1 with (fail)
 obtain ⟨W1, hwo⟩ : ∃ v : World, v = (w.alloc (.cells (zb 64 (m)) 23)) := ⟨_, rfl⟩
 have B0 : Blk W1 (w.heap.size) 64 23 (m) := by subst hwo; have := (Blk.new w 64 23 (m)); simpa using this
 have hb : Below w.heap.size w W1 := by subst hwo; exact ((Below.refl _ _).alloc (Nat.le_refl _) _)
 rw [← hwo]
 clear hwo
 rcases codeL_two p [m] with hc1 | hc1
 · rcases codeL_two p [] with hc2 | hc2
   · cases hm5 : monUp 5 m with
     | false =>
      have HV := Lib.hid (modV_3 hc1 hc2 hm5)
      go_upto_region 3 with (first | (refine zla (.tmp 4) B0 Try.underlying23 Try.size23 ?_) | (refine wpList_build_polys rfl 33 _ [m] rfl 23 rfl Try.underlying33 Try.elem23 (by simp) (by simp) rfl ?_; intro wa hwa hps hba; clear hwa) | (go_at_call 85; refine (l01Code_any p [m] (by simp [hmb]) _ _ hps (by simp)).mono ?_; rintro e W2 ⟨rfl, hbb⟩; replace B0 := B0.below (hba.trans (hbb.mono hba.size)) B0.lt; replace hb := hb.trans ((hba.trans (hbb.mono hba.size)).mono hb.size); clear hps; rw [hc1]) | (go_at_call 85; refine (l01Code_nil p _).mono ?_; rintro e W3 ⟨rfl, hb3⟩; replace B0 := B0.zw hb3; replace hb := hb.trans (hb3.mono hb.size); rw [hc2]))
      clear hba hbb hb3
      cases hmo : monB m with
      | false =>
       go_upto_region 4 with (first | (refine zla (.tmp 4) B0 Try.underlying23 Try.size23 ?_) | (go_at_call 104; refine (l01Monic_any m hmb _).mono ?_; rintro e W2 ⟨rfl, hW2⟩; replace B0 := B0.zw hW2; replace hb := (hb).trans (hW2.mono (hb).size); rw [hmo]))
       go_wp2_with fail
       go_ret
       exact ⟨ret_int HV.out.symm, hb⟩
      | true =>
       have hnr : ¬ (1 ≤ deg m ∧ deg m ≤ 5) := by intro h; rw [monUp_B, hmo] at hm5; simp at hm5; omega
       go_upto_region 4 with (first | (refine zla (.tmp 4) B0 Try.underlying23 Try.size23 ?_) | (go_at_call 104; refine (l01Monic_any m hmb _).mono ?_; rintro e W2 ⟨rfl, hW2⟩; replace B0 := B0.zw hW2; replace hb := (hb).trans (hW2.mono (hb).size); rw [hmo]) | (refine zlg rfl 23 (.tmp 4) rfl _ rfl 64 23 _ (B0) _ Try.underlying23 rfl Try.size23 ?_) | (go_at_call 88; refine (l01Deg_any m _).mono ?_; rintro e W3 ⟨rfl, hW3⟩; replace B0 := B0.zw hW3; replace hb := (hb).trans (hW3.mono (hb).size)) | (go_at_call 89; refine (l01In_no (deg m) 1 5 hnr _).mono ?_; rintro e wS ⟨rfl, rfl⟩))
       go_wp2_with fail
       go_ret
       exact ⟨ret_int HV.out.symm, hb⟩
     | true =>
      have HV := Lib.hid (modV_0 hc1 hc2 hm5)
      go_upto_region 3 with (first | (refine zla (.tmp 4) B0 Try.underlying23 Try.size23 ?_) | (refine wpList_build_polys rfl 33 _ [m] rfl 23 rfl Try.underlying33 Try.elem23 (by simp) (by simp) rfl ?_; intro wa hwa hps hba; clear hwa) | (go_at_call 85; refine (l01Code_any p [m] (by simp [hmb]) _ _ hps (by simp)).mono ?_; rintro e W2 ⟨rfl, hbb⟩; replace B0 := B0.below (hba.trans (hbb.mono hba.size)) B0.lt; replace hb := hb.trans ((hba.trans (hbb.mono hba.size)).mono hb.size); clear hps; rw [hc1]) | (go_at_call 85; refine (l01Code_nil p _).mono ?_; rintro e W3 ⟨rfl, hb3⟩; replace B0 := B0.zw hb3; replace hb := hb.trans (hb3.mono hb.size); rw [hc2]))
      clear hba hbb hb3
      have hmo : monB m = true := by cases h : monB m with | true => rfl | false => rw [monUp_B, h] at hm5; simp at hm5
      have hyr : 1 ≤ deg m ∧ deg m ≤ 5 := by rw [monUp_B, hmo] at hm5; simpa using hm5
      go_upto_region 5 with (first | (refine zla (.tmp 4) B0 Try.underlying23 Try.size23 ?_) | (go_at_call 104; refine (l01Monic_any m hmb _).mono ?_; rintro e W2 ⟨rfl, hW2⟩; replace B0 := B0.zw hW2; replace hb := (hb).trans (hW2.mono (hb).size); rw [hmo]) | (refine zlg rfl 23 (.tmp 4) rfl _ rfl 64 23 _ (B0) _ Try.underlying23 rfl Try.size23 ?_) | (go_at_call 88; refine (l01Deg_any m _).mono ?_; rintro e W3 ⟨rfl, hW3⟩; replace B0 := B0.zw hW3; replace hb := (hb).trans (hW3.mono (hb).size)) | (go_at_call 89; refine (l01In_yes (deg m) 1 5 hyr _).mono ?_; rintro e wS ⟨rfl, rfl⟩))
      go_wp2_with fail
      go_ret
      exact ⟨ret_int HV.out.symm, hb⟩
   · have HV := Lib.hid (modV_2 (m := m) hc2)
     go_upto_region 2 with (first | (refine zla (.tmp 4) B0 Try.underlying23 Try.size23 ?_) | (refine wpList_build_polys rfl 33 _ [m] rfl 23 rfl Try.underlying33 Try.elem23 (by simp) (by simp) rfl ?_; intro wa hwa hps hba; clear hwa) | (go_at_call 85; refine (l01Code_any p [m] (by simp [hmb]) _ _ hps (by simp)).mono ?_; rintro e W2 ⟨rfl, hbb⟩; replace B0 := B0.below (hba.trans (hbb.mono hba.size)) B0.lt; replace hb := hb.trans ((hba.trans (hbb.mono hba.size)).mono hb.size); clear hps; rw [hc1]) | (go_at_call 85; refine (l01Code_nil p _).mono ?_; rintro e W3 ⟨rfl, hb3⟩; replace B0 := B0.zw hb3; replace hb := hb.trans (hb3.mono hb.size); rw [hc2]))
     go_wp2_with fail
     go_ret
     exact ⟨ret_int HV.out.symm, hb⟩
 · have HV := Lib.hid (modV_1 (fs := []) hc1)
   go_upto_region 2 with (first | (refine zla (.tmp 4) B0 Try.underlying23 Try.size23 ?_) | (refine wpList_build_polys rfl 33 _ [m] rfl 23 rfl Try.underlying33 Try.elem23 (by simp) (by simp) rfl ?_; intro wa hwa hps hba; clear hwa) | (go_at_call 85; refine (l01Code_any p [m] (by simp [hmb]) _ _ hps (by simp)).mono ?_; rintro e W2 ⟨rfl, hbb⟩; replace B0 := B0.below (hba.trans (hbb.mono hba.size)) B0.lt; replace hb := hb.trans ((hba.trans (hbb.mono hba.size)).mono hb.size); clear hps; rw [hc1]))
   go_wp2_with fail
   go_ret
   exact ⟨ret_int HV.out.symm, hb⟩
/-- the first number from k on that passes -/
def fndN (T : Nat → Bool) : Nat → Nat → Nat
 | 0, k => k
 | f + 1, k => if T k = true then k else fndN T f (k + 1)
theorem fndN_at {T : Nat → Bool} : ∀ (f k0 k : Nat), T k = true → k0 ≤ k → k < k0 + f → (∀ j, k0 ≤ j → j < k → T j = false) → fndN T f k0 = k
 | 0, k0, k, _, h1, h2, _ => by omega
 | f + 1, k0, k, ht, h1, h2, h3 => by
  rw [fndN]
  by_cases e : k0 = k
  · subst e; rw [if_pos ht]
  · rw [if_neg (by rw [h3 k0 (Nat.le_refl _) (by omega)]; simp)]
    exact fndN_at f (k0 + 1) k ht (by omega) (by omega) (fun j h4 h5 => h3 j (by omega) h5)
/-- the number of the least primitive residue -/
def pxN (p : Nat) (m : Nat → Nat) : Nat := fndN (fun k => decide (odN p (ofN p k) m = p ^ (deg m).toNat - 1)) 16807 1
theorem pxN_at {p d k : Nat} {m : Nat → Nat} (hd : deg m = (d : Int)) (h1 : 1 ≤ k) (h2 : k ≤ 16807) (h3 : odN p (ofN p k) m = p ^ d - 1) (h4 : ∀ j, 1 ≤ j → j < k → odN p (ofN p j) m ≠ p ^ d - 1) : pxN p m = k := by
 unfold pxN
 rw [hd]
 exact fndN_at 16807 1 k (by simpa using h3) h1 (by omega) (fun j a b => by simpa using h4 j a b)
noncomputable def prW (p : Int) (m : Nat → Nat) : (Nat → Nat) × Int := if modV p m [] = 0 then (if irB p.toNat m = true then (ofN p.toNat (pxN p.toNat m), 0) else (fun _ => 0, 5)) else (fun _ => 0, modV p m [])
theorem prW_code {p c : Int} {m : Nat → Nat} (h : modV p m [] = c) (h2 : c ≠ 0) : prW p m = (fun _ => 0, c) := by unfold prW; rw [h, if_neg h2]
theorem prW_no {n : Nat} {m : Nat → Nat} (h : modV (n : Int) m [] = 0) (h2 : irB n m = false) : prW (n : Int) m = (fun _ => 0, 5) := by
 unfold prW; rw [if_pos h, Int.toNat_natCast, if_neg (by rw [h2]; simp)]
theorem prW_ok {n : Nat} {m : Nat → Nat} (h : modV (n : Int) m [] = 0) (h2 : irB n m = true) : prW (n : Int) m = (ofN n (pxN n m), 0) := by
 unfold prW; rw [if_pos h, Int.toNat_natCast, if_pos h2]
attribute [local irreducible] deg invN odN pxN prW ofN irB resP pmP
set_option maxRecDepth 100000 in
set_option maxHeartbeats 3200000 in
theorem spec_Primitive_core (p : Int) (m : Nat → Nat) (hm : byte m) (hz : ∀ k, 64 ≤ k → m k = 0) (w : World) :
 Calls Try.prog 53 #[.int .i64 p, .agg (zb 64 m)] w fun e w' => e = .returned (.tuple #[.agg (zb 64 (prW p m).1), .int .i64 (prW p m).2]) ∧ Below w.heap.size w w' := by
 have hcut : cut m = m := by
  funext k; unfold cut
  split
  · rfl
  · exact (hz k (by omega)).symm
 go_enter Try.func53, Try.ntmps53
 go_upto_region 1 with (fail)
 rw [← z64]
 obtain ⟨W1, hwo⟩ : ∃ v : World, v = ((w.alloc (.cells (zb 64 (m)) 23)).alloc (.cells (zb 64 fun _ => 0) 23)) := ⟨_, rfl⟩
 have B0 : Blk W1 (w.heap.size) 64 23 (m) := by subst hwo; have := ((Blk.new w 64 23 (m)).alloc (.cells (zb 64 fun _ => 0) 23)); simpa using this
 have B1 : Blk W1 (w.heap.size + 1) 64 23 (fun _ => 0) := by subst hwo; have := (Blk.new (w.alloc (.cells (zb 64 (m)) 23)) 64 23 (fun _ => 0)); simpa using this
 have hb : Below w.heap.size w W1 := by subst hwo; exact (((Below.refl _ _).alloc (Nat.le_refl _) _).alloc (by simp) _)
 rw [← hwo]
 clear hwo
 go_upto_region 2 with (first | (refine zla (.tmp 3) B0 Try.underlying23 Try.size23 ?_) | (go_at_call 115; refine (l02Modulus_nil p m hm _).mono ?_; rintro e W2 ⟨rfl, hW2⟩; replace B0 := B0.zw hW2; replace B1 := B1.zw hW2; replace hb := (hb).trans (hW2.mono (hb).size)))
 rcases modV_cases (p := p) (m := m) (fs := []) with ⟨c, hc, hc0, hc12⟩ | ⟨hc, hcm, hcf, hm5⟩
 · have HV := Lib.hid (prW_code hc hc0)
   rw [hc]
   clear hc
   have hb1 : ((c : Int) != 0) = true := by simp [hc0]
   go_upto_region 3 with (fail)
   have lt_B0 := B0.lt
   have lt_B1 := B1.lt
   go_wp2_with (first | rw [← z64] | (refine zsr (.tmp 4) (.tmp 15) (fun _ => 0) B1 Try.size23 ?_; try simp only [Act.put]; go_wp2_with fail))
   obtain ⟨W3, hwo, hzQ⟩ : ∃ v : World, v = (W2.setRow (w.heap.size + 1) (zb 64 (fun _ => 0))) ∧ Blk v (w.heap.size) 64 23 (m) ∧ Blk v (w.heap.size + 1) 64 23 (fun _ => 0) ∧ Below w.heap.size w v := ⟨_, rfl, (B0.rowOther (by omega)), (B1.row (fun _ => 0)), (zr hb (by omega) _)⟩
   rw [← hwo]
   clear hwo B0 B1 hb
   obtain ⟨B0, B1, hb⟩ := hzQ
   try simp only [Act.put, pA, pB, pC]
   refine bodyPost_ret (results_bt rfl _ _ _ 64 23 5 _ rfl B1 Try.underlying23 Try.size23) rfl ⟨by first | (rw [HV.out]; rfl) | rw [HV.out], hb⟩
 · obtain ⟨n, hn, n2, n7⟩ := okP_nat (codeL_zero hcm).1
   subst hn
   have lm := lt_of_code hcm (f := m) (by simp)
   have hpr := prime_of hcm
   obtain ⟨d, hmon, hd1, hd5⟩ := mon_up hm5
   have h0 : 0 ≤ deg m := by rw [hmon.1]; omega
   have h12 : deg m ≤ 12 := by rw [hmon.1]; omega
   cases hu : irB n m with
   | false =>
    have HV := Lib.hid (prW_no hc hu)
    have HI := Lib.hid (fun W => l01Irreducible_any n m d W hpr lm hmon (by omega))
    rw [hu] at HI
    rw [hc]
    clear hc
    go_upto_region 4 with (fail)
    go_upto_region 5 with (first | (refine zla (.tmp 3) B0 Try.underlying23 Try.size23 ?_) | (go_at_call 105; refine (HI.out _).mono ?_; rintro e W3 ⟨rfl, hW3⟩; replace B0 := B0.zw hW3; replace B1 := B1.zw hW3; replace hb := (hb).trans (hW3.mono (hb).size)))
    have lt_B0 := B0.lt
    have lt_B1 := B1.lt
    go_wp2_with (first | rw [← z64] | (refine zsr (.tmp 4) (.tmp 21) (fun _ => 0) B1 Try.size23 ?_; try simp only [Act.put]; go_wp2_with fail))
    obtain ⟨W4, hwo, hzQ⟩ : ∃ v : World, v = (W3.setRow (w.heap.size + 1) (zb 64 (fun _ => 0))) ∧ Blk v (w.heap.size) 64 23 (m) ∧ Blk v (w.heap.size + 1) 64 23 (fun _ => 0) ∧ Below w.heap.size w v := ⟨_, rfl, (B0.rowOther (by omega)), (B1.row (fun _ => 0)), (zr hb (by omega) _)⟩
    rw [← hwo]
    clear hwo B0 B1 hb
    obtain ⟨B0, B1, hb⟩ := hzQ
    try simp only [Act.put, pA, pB, pC]
    refine bodyPost_ret (results_bt rfl _ _ _ 64 23 5 _ rfl B1 Try.underlying23 Try.size23) rfl ⟨by first | (rw [HV.out]; rfl) | rw [HV.out], hb⟩
   | true =>
    have HV := Lib.hid (prW_ok hc hu)
    have HI := Lib.hid (fun W => l01Irreducible_any n m d W hpr lm hmon (by omega))
    rw [hu] at HI
    obtain ⟨dd, hir⟩ := irB_iff.1 hu
    rw [hcut] at hir
    have hdd : dd = d := by have h1 := hir.2.1.1; rw [hmon.1] at h1; omega
    rw [hdd] at hir
    obtain ⟨N0, hN1, hN2, hN3⟩ := prim_ex hpr hir (by omega)
    have hpw := pw_le5 hpr (show d ≤ 5 by omega)
    have hpw2 : 2 ≤ n ^ d := by
     have h2 : n ^ 1 ≤ n ^ d := Nat.pow_le_pow_right (by omega) hd1
     rw [Nat.pow_one] at h2; omega
    have HX := Lib.hid (fun k => pxN_at (p := n) (k := k) hmon.1)
    obtain ⟨Q, hQ⟩ : ∃ Q, Q = n ^ d := ⟨_, rfl⟩
    rw [← hQ] at hN2 hN3 HX hpw hpw2
    have HQ := Lib.hid hQ
    have HN3 := Lib.hid hN3
    have HOF := Lib.hid (fun (k : Nat) (hk : k ≤ 16807) W => l01Of_any n k W n2 n7 (by omega))
    have HOR := Lib.hid (fun (k : Nat) W => l02Order_any n (ofN n k) m W hpr (fun i _ => ofN_lt (by omega) k i) lm h0 h12)
    have HCO := Lib.hid (fun W => l01Count_any n d W n2 n7 (by omega))
    rw [← hQ] at HCO
    have HMD := Lib.hid hmon.1
    rw [hc]
    clear hc hQ hN3 hir hdd hmon hu hm5 hcm hcf hcut
    go_upto_region 4 with (fail)
    go_upto_region 6 with (first | (refine zla (.tmp 3) B0 Try.underlying23 Try.size23 ?_) | (go_at_call 105; refine (HI.out _).mono ?_; rintro e W3 ⟨rfl, hW3⟩; replace B0 := B0.zw hW3; replace B1 := B1.zw hW3; replace hb := (hb).trans (hW3.mono (hb).size)))
    go_upto_region 7 with (first | (refine zla (.tmp 3) B0 Try.underlying23 Try.size23 ?_) | (go_at_call 88; refine (l01Deg_any m _).mono ?_; rintro e W4 ⟨rfl, hW4⟩; replace B0 := B0.zw hW4; replace B1 := B1.zw hW4; replace hb := (hb).trans (hW4.mono (hb).size); rw [HMD.out]) | (go_at_call 99; refine (HCO.out _).mono ?_; rintro e wS ⟨rfl, rfl⟩))
    go_wp2_with fail
    go_loopw [8] (fun i wr => ∃ k : Nat, i = .int .i64 (k : Int) ∧ 1 ≤ k ∧ k ≤ N0 ∧ Hid (∀ j, 1 ≤ j → j < k → odN n (ofN n j) m ≠ Q - 1) ∧ Below w.heap.size w wr ∧ Blk wr (w.heap.size) 64 23 (m) ∧ Blk wr (w.heap.size + 1) 64 23 (fun _ => 0)) (fun i _ => N0 - (intOf i).toNat)
    case atStart => exact ⟨1, rfl, Nat.le_refl _, hN1, Lib.hid (fun j h1 h2 => by omega), hb, B0, B1⟩
    case round =>
     clear hb B0 B1
     obtain ⟨k, rfl, hk1, hkN, hall, hb, B0, B1⟩ := hrel
     obtain ⟨O, hO⟩ : ∃ O, O = odN n (ofN n k) m := ⟨_, rfl⟩
     have HOK := Lib.hid (fun W => HOR.out k W)
     rw [← hO] at HOK
     have HOI := Lib.hid (fun W => HOF.out k (by omega) W)
     by_cases hE : O = Q - 1
     · have hne : ((O : Int) == (Q : Int) - 1) = true := by simp; omega
       have HV2 := Lib.hid (HX.out k hk1 (by omega) (by rw [← hO]; exact hE) hall.out)
       have HV3 := Lib.hid (show prW (n : Int) m = (ofN n k, 0) by rw [HV.out, HV2.out])
       clear hE hO
       go_upto_region 9 with (fail)
       have lt_B0 := B0.lt
       have lt_B1 := B1.lt
       go_upto_region 10 with (first | rw [← z64] | (go_at_call 100; refine (HOI.out _).mono ?_; rintro e W5 ⟨rfl, hW5⟩; replace B0 := B0.zw hW5; replace B1 := B1.zw hW5; replace hb := (hb).trans (hW5.mono (hb).size)) | (refine wpList_store_blk rfl 23 (.tmp 9) (.tmp 30) rfl _ 64 (ofN n k) rfl rfl 23 _ ((Blk.new W5 64 23 (fun _ => 0))) Try.size23 ?_; try simp only [Act.put]))
       have lt_B0 := B0.lt
       have lt_B1 := B1.lt
       have lhb := hb.size
       obtain ⟨W6, hwo, hzQ⟩ : ∃ v : World, v = ((W5.alloc (.cells (zb 64 fun _ => 0) 23)).setRow (W5.heap.size) (zb 64 (ofN n k))) ∧ Blk v (w.heap.size) 64 23 (m) ∧ Blk v (w.heap.size + 1) 64 23 (fun _ => 0) ∧ Blk v (W5.heap.size) 64 23 (ofN n k) ∧ Below w.heap.size w v := ⟨_, rfl, ((B0.alloc (.cells (zb 64 fun _ => 0) 23)).rowOther (by omega)), ((B1.alloc (.cells (zb 64 fun _ => 0) 23)).rowOther (by omega)), ((Blk.new W5 64 23 (fun _ => 0)).row (ofN n k)), (zr (hb.alloc (by have := hb.size; simp; omega) (.cells (zb 64 fun _ => 0) 23)) (by omega) _)⟩
       rw [← hwo]
       clear hwo B0 B1 hb
       obtain ⟨B0, B1, B2, hb⟩ := hzQ
       obtain ⟨N1, hNN⟩ : ∃ n : Nat, n = W5.heap.size := ⟨_, rfl⟩
       rw [← hNN] at lt_B0 lt_B1 lhb B2 ⊢
       clear hNN
       have zN1_0 := lt_B0
       have zN1_1 := lt_B1
       have zN1 := lhb
       clear lt_B0 lt_B1 lhb
       try simp only [Act.put, pA, pB, pC]
       go_upto_region 11 with (first | (refine zla (.tmp 9) B2 Try.underlying23 Try.size23 ?_) | (refine zla (.tmp 3) B0 Try.underlying23 Try.size23 ?_) | (go_at_call 117; refine (HOK.out _).mono ?_; rintro e W7 ⟨rfl, hW7⟩; replace B0 := B0.zw hW7; replace B1 := B1.zw hW7; replace B2 := B2.zw hW7; replace hb := (hb).trans (hW7.mono (hb).size)))
       have lt_B0 := B0.lt
       have lt_B1 := B1.lt
       have lt_B2 := B2.lt
       go_wp2_with (first | rw [← z64] | (refine zla (.tmp 9) B2 Try.underlying23 Try.size23 ?_) | (refine zsr (.tmp 4) (.tmp 38) (ofN n k) B1 Try.size23 ?_; try simp only [Act.put]; go_wp2_with fail))
       obtain ⟨W8, hwo, hzQ⟩ : ∃ v : World, v = (W7.setRow (w.heap.size + 1) (zb 64 (ofN n k))) ∧ Blk v (w.heap.size) 64 23 (m) ∧ Blk v (w.heap.size + 1) 64 23 (ofN n k) ∧ Blk v (N1) 64 23 (ofN n k) ∧ Below w.heap.size w v := ⟨_, rfl, (B0.rowOther (by omega)), (B1.row (ofN n k)), (B2.rowOther (by omega)), (zr hb (by omega) _)⟩
       rw [← hwo]
       clear hwo B0 B1 B2 hb
       obtain ⟨B0, B1, B2, hb⟩ := hzQ
       try simp only [Act.put, pA, pB, pC]
       refine bodyPost_ret (results_bt rfl _ _ _ 64 23 5 _ rfl B1 Try.underlying23 Try.size23) rfl ⟨by first | (rw [HV3.out]; rfl) | rw [HV3.out], hb⟩
     · have hne : ((O : Int) == (Q : Int) - 1) = false := by simp; omega
       have HNE := Lib.hid (show odN n (ofN n k) m ≠ Q - 1 from by rw [← hO]; exact hE)
       have hkl : k < N0 := by
        apply Classical.byContradiction
        intro h
        have : k = N0 := by omega
        have h1 := HN3.out
        have h2 := HNE.out
        rw [this] at h2
        exact h2 h1
       clear hE hO
       go_upto_region 9 with (fail)
       have lt_B0 := B0.lt
       have lt_B1 := B1.lt
       go_upto_region 10 with (first | rw [← z64] | (go_at_call 100; refine (HOI.out _).mono ?_; rintro e W5 ⟨rfl, hW5⟩; replace B0 := B0.zw hW5; replace B1 := B1.zw hW5; replace hb := (hb).trans (hW5.mono (hb).size)) | (refine wpList_store_blk rfl 23 (.tmp 9) (.tmp 30) rfl _ 64 (ofN n k) rfl rfl 23 _ ((Blk.new W5 64 23 (fun _ => 0))) Try.size23 ?_; try simp only [Act.put]))
       have lt_B0 := B0.lt
       have lt_B1 := B1.lt
       have lhb := hb.size
       obtain ⟨W6, hwo, hzQ⟩ : ∃ v : World, v = ((W5.alloc (.cells (zb 64 fun _ => 0) 23)).setRow (W5.heap.size) (zb 64 (ofN n k))) ∧ Blk v (w.heap.size) 64 23 (m) ∧ Blk v (w.heap.size + 1) 64 23 (fun _ => 0) ∧ Blk v (W5.heap.size) 64 23 (ofN n k) ∧ Below w.heap.size w v := ⟨_, rfl, ((B0.alloc (.cells (zb 64 fun _ => 0) 23)).rowOther (by omega)), ((B1.alloc (.cells (zb 64 fun _ => 0) 23)).rowOther (by omega)), ((Blk.new W5 64 23 (fun _ => 0)).row (ofN n k)), (zr (hb.alloc (by have := hb.size; simp; omega) (.cells (zb 64 fun _ => 0) 23)) (by omega) _)⟩
       rw [← hwo]
       clear hwo B0 B1 hb
       obtain ⟨B0, B1, B2, hb⟩ := hzQ
       obtain ⟨N1, hNN⟩ : ∃ n : Nat, n = W5.heap.size := ⟨_, rfl⟩
       rw [← hNN] at lt_B0 lt_B1 lhb B2 ⊢
       clear hNN
       have zN1_0 := lt_B0
       have zN1_1 := lt_B1
       have zN1 := lhb
       clear lt_B0 lt_B1 lhb
       try simp only [Act.put, pA, pB, pC]
       go_upto_region 8 with (first | (refine zla (.tmp 9) B2 Try.underlying23 Try.size23 ?_) | (refine zla (.tmp 3) B0 Try.underlying23 Try.size23 ?_) | (go_at_call 117; refine (HOK.out _).mono ?_; rintro e W7 ⟨rfl, hW7⟩; replace B0 := B0.zw hW7; replace B1 := B1.zw hW7; replace B2 := B2.zw hW7; replace hb := (hb).trans (hW7.mono (hb).size)))
       go_wp2_with fail
       go_roundw
       case rel => exact ⟨k + 1, by go_num, by omega, by omega, Lib.hid (fun j h1 h2 => by
        by_cases e : j = k
        · subst e; exact HNE.out
        · exact hall.out j h1 (by omega)), hb, B0, B1⟩
       case measure => simp [intOf] <;> omega
theorem spec_PrimitiveOf_any (p : Int) (m : Nat → Nat) (hm : byte m) (w : World) :
 Calls Try.prog 53 #[.int .i64 p, .agg (zb 64 m)] w fun e w' => e = .returned (.tuple #[.agg (zb 64 (prW p (cut m)).1), .int .i64 (prW p (cut m)).2]) ∧ Below w.heap.size w w' := by
 have h := spec_Primitive_core p (cut m) (fun k => by unfold cut; split; exact hm k; omega) (fun k hk => by unfold cut; rw [if_neg (by omega)]) w
 rw [bcells_cut] at h
 exact h
set_option maxRecDepth 100000 in
set_option maxHeartbeats 3200000 in
theorem impl_Primitive_core (p : Int) (m : Nat → Nat) (hm : byte m) (hz : ∀ k, 64 ≤ k → m k = 0) (w : World) :
 Calls Try.prog 54 #[.int .i64 p, .agg (zb 64 m)] w fun e w' => e = .returned (.tuple #[.agg (zb 64 (prW p m).1), .int .i64 (prW p m).2]) ∧ Below w.heap.size w w' := by
 have hcut : cut m = m := by
  funext k; unfold cut
  split
  · rfl
  · exact (hz k (by omega)).symm
 go_enter Try.func54, Try.ntmps54
 go_upto_region 1 with (fail)
 rw [← z64]
 obtain ⟨W1, hwo⟩ : ∃ v : World, v = ((w.alloc (.cells (zb 64 (m)) 23)).alloc (.cells (zb 64 fun _ => 0) 23)) := ⟨_, rfl⟩
 have B0 : Blk W1 (w.heap.size) 64 23 (m) := by subst hwo; have := ((Blk.new w 64 23 (m)).alloc (.cells (zb 64 fun _ => 0) 23)); simpa using this
 have B1 : Blk W1 (w.heap.size + 1) 64 23 (fun _ => 0) := by subst hwo; have := (Blk.new (w.alloc (.cells (zb 64 (m)) 23)) 64 23 (fun _ => 0)); simpa using this
 have hb : Below w.heap.size w W1 := by subst hwo; exact (((Below.refl _ _).alloc (Nat.le_refl _) _).alloc (by simp) _)
 rw [← hwo]
 clear hwo
 go_upto_region 2 with (first | (refine zla (.tmp 3) B0 Try.underlying23 Try.size23 ?_) | (go_at_call 118; refine (checkModulus_nil p m hm _).mono ?_; rintro e W2 ⟨rfl, hW2⟩; replace B0 := B0.zw hW2; replace B1 := B1.zw hW2; replace hb := (hb).trans (hW2.mono (hb).size)))
 rcases modV_cases (p := p) (m := m) (fs := []) with ⟨c, hc, hc0, hc12⟩ | ⟨hc, hcm, hcf, hm5⟩
 · have HV := Lib.hid (prW_code hc hc0)
   rw [hc]
   clear hc
   have hb1 : ((c : Int) != 0) = true := by simp [hc0]
   go_upto_region 3 with (fail)
   have lt_B0 := B0.lt
   have lt_B1 := B1.lt
   go_wp2_with (first | rw [← z64] | (refine zsr (.tmp 4) (.tmp 13) (fun _ => 0) B1 Try.size23 ?_; try simp only [Act.put]; go_wp2_with fail))
   obtain ⟨W3, hwo, hzQ⟩ : ∃ v : World, v = (W2.setRow (w.heap.size + 1) (zb 64 (fun _ => 0))) ∧ Blk v (w.heap.size) 64 23 (m) ∧ Blk v (w.heap.size + 1) 64 23 (fun _ => 0) ∧ Below w.heap.size w v := ⟨_, rfl, (B0.rowOther (by omega)), (B1.row (fun _ => 0)), (zr hb (by omega) _)⟩
   rw [← hwo]
   clear hwo B0 B1 hb
   obtain ⟨B0, B1, hb⟩ := hzQ
   try simp only [Act.put, pA, pB, pC]
   refine bodyPost_ret (results_bt rfl _ _ _ 64 23 5 _ rfl B1 Try.underlying23 Try.size23) rfl ⟨by first | (rw [HV.out]; rfl) | rw [HV.out], hb⟩
 · obtain ⟨n, hn, n2, n7⟩ := okP_nat (codeL_zero hcm).1
   subst hn
   have lm := lt_of_code hcm (f := m) (by simp)
   have hpr := prime_of hcm
   obtain ⟨d, hmon, hd1, hd5⟩ := mon_up hm5
   have h0 : 0 ≤ deg m := by rw [hmon.1]; omega
   have h12 : deg m ≤ 12 := by rw [hmon.1]; omega
   cases hu : irB n m with
   | false =>
    have HV := Lib.hid (prW_no hc hu)
    have HI := Lib.hid (show ∀ W, Calls Try.prog 107 #[.int .i64 (n : Int), .agg (zb 64 m)] W fun e w' => e = .returned (.bool false) ∧ Below W.heap.size W w' from fun W => by
     have h := isIrreducible_any n m W hpr lm
     have hb5 : monB m = true := by
      have h5 := hm5
      rw [monUp_B] at h5
      simp only [Bool.and_eq_true, decide_eq_true_eq] at h5
      exact h5.1
     rw [irV_B h12, hb5, hu] at h
     exact h)
    rw [hc]
    clear hc
    go_upto_region 4 with (fail)
    go_upto_region 5 with (first | (refine zla (.tmp 3) B0 Try.underlying23 Try.size23 ?_) | (go_at_call 107; refine (HI.out _).mono ?_; rintro e W3 ⟨rfl, hW3⟩; replace B0 := B0.zw hW3; replace B1 := B1.zw hW3; replace hb := (hb).trans (hW3.mono (hb).size)))
    have lt_B0 := B0.lt
    have lt_B1 := B1.lt
    go_wp2_with (first | rw [← z64] | (refine zsr (.tmp 4) (.tmp 19) (fun _ => 0) B1 Try.size23 ?_; try simp only [Act.put]; go_wp2_with fail))
    obtain ⟨W4, hwo, hzQ⟩ : ∃ v : World, v = (W3.setRow (w.heap.size + 1) (zb 64 (fun _ => 0))) ∧ Blk v (w.heap.size) 64 23 (m) ∧ Blk v (w.heap.size + 1) 64 23 (fun _ => 0) ∧ Below w.heap.size w v := ⟨_, rfl, (B0.rowOther (by omega)), (B1.row (fun _ => 0)), (zr hb (by omega) _)⟩
    rw [← hwo]
    clear hwo B0 B1 hb
    obtain ⟨B0, B1, hb⟩ := hzQ
    try simp only [Act.put, pA, pB, pC]
    refine bodyPost_ret (results_bt rfl _ _ _ 64 23 5 _ rfl B1 Try.underlying23 Try.size23) rfl ⟨by first | (rw [HV.out]; rfl) | rw [HV.out], hb⟩
   | true =>
    have HV := Lib.hid (prW_ok hc hu)
    have HI := Lib.hid (show ∀ W, Calls Try.prog 107 #[.int .i64 (n : Int), .agg (zb 64 m)] W fun e w' => e = .returned (.bool true) ∧ Below W.heap.size W w' from fun W => by
     have h := isIrreducible_any n m W hpr lm
     have hb5 : monB m = true := by
      have h5 := hm5
      rw [monUp_B] at h5
      simp only [Bool.and_eq_true, decide_eq_true_eq] at h5
      exact h5.1
     rw [irV_B h12, hb5, hu] at h
     exact h)
    obtain ⟨dd, hir⟩ := irB_iff.1 hu
    rw [hcut] at hir
    have hdd : dd = d := by have h1 := hir.2.1.1; rw [hmon.1] at h1; omega
    rw [hdd] at hir
    obtain ⟨N0, hN1, hN2, hN3⟩ := prim_ex hpr hir (by omega)
    have hpw := pw_le5 hpr (show d ≤ 5 by omega)
    have hpw2 : 2 ≤ n ^ d := by
     have h2 : n ^ 1 ≤ n ^ d := Nat.pow_le_pow_right (by omega) hd1
     rw [Nat.pow_one] at h2; omega
    have HX := Lib.hid (fun k => pxN_at (p := n) (k := k) hmon.1)
    obtain ⟨Q, hQ⟩ : ∃ Q, Q = n ^ d := ⟨_, rfl⟩
    rw [← hQ] at hN2 hN3 HX hpw hpw2
    have HQ := Lib.hid hQ
    have HN3 := Lib.hid hN3
    have HOF := Lib.hid (fun (k : Nat) (hk : k ≤ 16807) W => polyOfNumber_any n k W n2 n7 (by omega))
    have HOR := Lib.hid (fun (k : Nat) W => orderOf_any n (ofN n k) m W hpr (fun i _ => ofN_lt (by omega) k i) lm h0 h12)
    have HDG := Lib.hid (show ∀ W, Calls Try.prog 92 #[.agg (zb 64 m)] W fun e w' => e = .returned (.int .i64 (d : Int)) ∧ Below W.heap.size W w' from fun W => by
     have h := degree_any m W
     rw [hmon.1] at h; exact h)
    have HNO := Lib.hid (show ∀ W, Calls Try.prog 108 #[.int .i64 (n : Int), .int .i64 (d : Int)] W fun e w' => e = .returned (.int .i64 (Q : Int)) ∧ Below W.heap.size W w' from fun W => by
     have h := norm_any n d W n2 n7 (by omega)
     rw [← hQ] at h
     exact h.mono (by rintro e w' ⟨rfl, rfl⟩; exact ⟨rfl, Below.refl _ _⟩))
    have HMD := Lib.hid hmon.1
    rw [hc]
    clear hc hQ hN3 hir hdd hmon hu hm5 hcm hcf hcut
    go_upto_region 4 with (fail)
    go_upto_region 6 with (first | (refine zla (.tmp 3) B0 Try.underlying23 Try.size23 ?_) | (go_at_call 107; refine (HI.out _).mono ?_; rintro e W3 ⟨rfl, hW3⟩; replace B0 := B0.zw hW3; replace B1 := B1.zw hW3; replace hb := (hb).trans (hW3.mono (hb).size)))
    go_wp2_with fail
    go_loopw [7] (fun i wr => ∃ k : Nat, i = .int .i64 (k : Int) ∧ 1 ≤ k ∧ k ≤ N0 ∧ Hid (∀ j, 1 ≤ j → j < k → odN n (ofN n j) m ≠ Q - 1) ∧ Below w.heap.size w wr ∧ Blk wr (w.heap.size) 64 23 (m) ∧ Blk wr (w.heap.size + 1) 64 23 (fun _ => 0)) (fun i _ => N0 - (intOf i).toNat)
    case atStart => exact ⟨1, rfl, Nat.le_refl _, hN1, Lib.hid (fun j h1 h2 => by omega), hb, B0, B1⟩
    case round =>
     clear hb B0 B1
     obtain ⟨k, rfl, hk1, hkN, hall, hb, B0, B1⟩ := hrel
     obtain ⟨O, hO⟩ : ∃ O, O = odN n (ofN n k) m := ⟨_, rfl⟩
     have HOK := Lib.hid (fun W => HOR.out k W)
     rw [← hO] at HOK
     have HOI := Lib.hid (fun W => HOF.out k (by omega) W)
     by_cases hE : O = Q - 1
     · have hne : ((O : Int) != (Q : Int) - 1) = false := by simp; omega
       have HV2 := Lib.hid (HX.out k hk1 (by omega) (by rw [← hO]; exact hE) hall.out)
       have HV3 := Lib.hid (show prW (n : Int) m = (ofN n k, 0) by rw [HV.out, HV2.out])
       clear hE hO
       go_upto_region 7 with (fail)
       have lt_B0 : (w.heap.size) < wr.heap.size := B0.lt
       have lt_B1 : (w.heap.size + 1) < wr.heap.size := B1.lt
       have hbase : w.heap.size ≤ wr.heap.size := hb.size
       refine zq Try.mixed (by kernel_rfl) (by kernel_rfl) (fun v => by (simp only [frL, Act.put, pA, pB, pC, Nat.reduceAdd, Nat.zero_add]; exact rfl))
        (fun L v W4 => Below w.heap.size w W4 ∧ wr.heap.size ≤ W4.heap.size ∧ Blk W4 (w.heap.size) 64 23 (m) ∧ Blk W4 (w.heap.size + 1) 64 23 (fun _ => 0) ∧ (L 0 = true → v 0 = (.int .i64 (n : Int))) ∧ (L 1 = true → v 1 = (.int .i64 (n : Int))) ∧ (L 2 = true → v 2 = (.int .i64 (k : Int))) ∧ (L 3 = true → v 3 = (.agg (zb 64 (ofN n k)))) ∧ (L 4 = true → v 4 = (.agg (zb 64 (m)))) ∧ (L 5 = true → v 5 = (.int .i64 (O : Int))) ∧ (L 6 = true → v 6 = (.int .i64 (n : Int))) ∧ (L 7 = true → v 7 = (.agg (zb 64 (m)))) ∧ (L 8 = true → v 8 = (.int .i64 (d : Int))) ∧ (L 9 = true → v 9 = (.int .i64 (Q : Int))) ∧ (L 10 = true → v 10 = (.int .i64 ((Q : Int) - 1))) ∧ (L 11 = true → v 11 = (.bool false))) ?_ ?_ ?_
       · intro v hv0
         exact ⟨hb.drew, Nat.le_refl _, B0.drew, B1.drew, (fun h => by cases h), (fun h => by cases h), (fun h => by cases h), (fun h => by cases h), (fun h => by cases h), (fun h => by cases h), (fun h => by cases h), (fun h => by cases h), (fun h => by cases h), (fun h => by cases h), (fun h => by cases h), (fun h => by cases h)⟩
       · refine (.cons rfl ?_ (.cons rfl ?_ (.cons rfl ?_ (.cons rfl ?_ (.cons rfl ?_ (.cons rfl ?_ (.cons rfl ?_ (.cons rfl ?_ (.cons rfl ?_ (.cons rfl ?_ (.cons rfl ?_ (.cons rfl ?_ (.nil _)))))))))))))
         all_goals intro L v W4 hd hn ⟨hB, hz, s0, s1, h0, h1, h2, h3, h4, h5, h6, h7, h8, h9, h10, h11⟩ K hK
         · go_wp2_with fail
           exact hK _ (.int .i64 (n : Int)) _ (by simp only [Act.put, pA, pB, pC ]) ⟨hB, hz, s0, s1, (fun _ => rfl), h1, h2, h3, h4, h5, h6, h7, h8, h9, h10, h11⟩
         · go_wp2_with fail
           exact hK _ (.int .i64 (n : Int)) _ (by simp only [Act.put, pA, pB, pC ]) ⟨hB, hz, s0, s1, h0, (fun _ => rfl), h2, h3, h4, h5, h6, h7, h8, h9, h10, h11⟩
         · go_wp2_with fail
           exact hK _ (.int .i64 (k : Int)) _ (by simp only [Act.put, pA, pB, pC ]) ⟨hB, hz, s0, s1, h0, h1, (fun _ => rfl), h3, h4, h5, h6, h7, h8, h9, h10, h11⟩
         · have e1 := h1 (zdq hd 1 rfl)
           have e2 := h2 (zdq hd 2 rfl)
           go_wp2_with (go_at_call 102; refine (HOI.out _).mono ?_; rintro e wy ⟨rfl, hy⟩)
           exact hK _ (.agg (zb 64 (ofN n k))) _ (by simp only [Act.put, pA, pB, pC, e1, e2]) ⟨hB.trans (hy.mono hB.size), (Nat.le_trans hz hy.size), s0.zw hy, s1.zw hy, h0, h1, h2, (fun _ => rfl), h4, h5, h6, h7, h8, h9, h10, h11⟩
         · refine zlc s0 Try.underlying23 Try.size23 ?_
           exact hK _ _ _ rfl ⟨hB, hz, s0, s1, h0, h1, h2, h3, (fun _ => rfl), h5, h6, h7, h8, h9, h10, h11⟩
         · have e0 := h0 (zdq hd 0 rfl)
           have e3 := h3 (zdq hd 3 rfl)
           have e4 := h4 (zdq hd 4 rfl)
           go_wp2_with (go_at_call 120; refine (HOK.out _).mono ?_; rintro e wy ⟨rfl, hy⟩)
           exact hK _ (.int .i64 (O : Int)) _ (by simp only [Act.put, pA, pB, pC, e0, e3, e4]) ⟨hB.trans (hy.mono hB.size), (Nat.le_trans hz hy.size), s0.zw hy, s1.zw hy, h0, h1, h2, h3, h4, (fun _ => rfl), h6, h7, h8, h9, h10, h11⟩
         · go_wp2_with fail
           exact hK _ (.int .i64 (n : Int)) _ (by simp only [Act.put, pA, pB, pC ]) ⟨hB, hz, s0, s1, h0, h1, h2, h3, h4, h5, (fun _ => rfl), h7, h8, h9, h10, h11⟩
         · refine zlc s0 Try.underlying23 Try.size23 ?_
           exact hK _ _ _ rfl ⟨hB, hz, s0, s1, h0, h1, h2, h3, h4, h5, h6, (fun _ => rfl), h8, h9, h10, h11⟩
         · have e7 := h7 (zdq hd 7 rfl)
           go_wp2_with (go_at_call 92; refine (HDG.out _).mono ?_; rintro e wy ⟨rfl, hy⟩)
           exact hK _ (.int .i64 (d : Int)) _ (by simp only [Act.put, pA, pB, pC, e7]) ⟨hB.trans (hy.mono hB.size), (Nat.le_trans hz hy.size), s0.zw hy, s1.zw hy, h0, h1, h2, h3, h4, h5, h6, h7, (fun _ => rfl), h9, h10, h11⟩
         · have e6 := h6 (zdq hd 6 rfl)
           have e8 := h8 (zdq hd 8 rfl)
           go_wp2_with (go_at_call 108; refine (HNO.out _).mono ?_; rintro e wy ⟨rfl, hy⟩)
           exact hK _ (.int .i64 (Q : Int)) _ (by simp only [Act.put, pA, pB, pC, e6, e8]) ⟨hB.trans (hy.mono hB.size), (Nat.le_trans hz hy.size), s0.zw hy, s1.zw hy, h0, h1, h2, h3, h4, h5, h6, h7, h8, (fun _ => rfl), h10, h11⟩
         · have e9 := h9 (zdq hd 9 rfl)
           go_wp2_with fail
           exact hK _ (.int .i64 ((Q : Int) - 1)) _ (by simp only [Act.put, pA, pB, pC, e9]) ⟨hB, hz, s0, s1, h0, h1, h2, h3, h4, h5, h6, h7, h8, h9, (fun _ => rfl), h11⟩
         · have e5 := h5 (zdq hd 5 rfl)
           have e10 := h10 (zdq hd 10 rfl)
           go_wp2_with fail
           exact hK _ (.bool false) _ (by simp only [Act.put, pA, pB, pC, e5, e10]) ⟨hB, hz, s0, s1, h0, h1, h2, h3, h4, h5, h6, h7, h8, h9, h10, (fun _ => rfl)⟩
       · intro L v W4 hL ⟨hB, hz, s0, s1, h0, h1, h2, h3, h4, h5, h6, h7, h8, h9, h10, h11⟩
         have e0 := h0 (hL 0 (by decide))
         have e1 := h1 (hL 1 (by decide))
         have e2 := h2 (hL 2 (by decide))
         have e3 := h3 (hL 3 (by decide))
         have e4 := h4 (hL 4 (by decide))
         have e5 := h5 (hL 5 (by decide))
         have e6 := h6 (hL 6 (by decide))
         have e7 := h7 (hL 7 (by decide))
         have e8 := h8 (hL 8 (by decide))
         have e9 := h9 (hL 9 (by decide))
         have e10 := h10 (hL 10 (by decide))
         have e11 := h11 (hL 11 (by decide))
         clear hL h0 h1 h2 h3 h4 h5 h6 h7 h8 h9 h10 h11
         simp only [Exit.then, e0, e1, e2, e3, e4, e5, e6, e7, e8, e9, e10, e11]
         clear e0 e1 e2 e3 e4 e5 e6 e7 e8 e9 e10 e11
         replace B0 := s0
         clear s0
         replace B1 := s1
         clear s1
         replace hb := hB
         clear hB
         clear hbase hz lt_B0 lt_B1
         go_upto_region 9 with (fail)
         have lt_B0 := B0.lt
         have lt_B1 := B1.lt
         go_wp2_with (first | rw [← z64] | (go_at_call 102; refine (HOI.out _).mono ?_; rintro e W5 ⟨rfl, hW5⟩; replace B0 := B0.zw hW5; replace B1 := B1.zw hW5; replace hb := (hb).trans (hW5.mono (hb).size)) | (refine zsr (.tmp 4) (.tmp 36) (ofN n k) B1 Try.size23 ?_; try simp only [Act.put]; go_wp2_with fail))
         obtain ⟨W6, hwo, hzQ⟩ : ∃ v : World, v = (W5.setRow (w.heap.size + 1) (zb 64 (ofN n k))) ∧ Blk v (w.heap.size) 64 23 (m) ∧ Blk v (w.heap.size + 1) 64 23 (ofN n k) ∧ Below w.heap.size w v := ⟨_, rfl, (B0.rowOther (by omega)), (B1.row (ofN n k)), (zr hb (by omega) _)⟩
         rw [← hwo]
         clear hwo B0 B1 hb
         obtain ⟨B0, B1, hb⟩ := hzQ
         try simp only [Act.put, pA, pB, pC]
         refine bodyPost_ret (results_bt rfl _ _ _ 64 23 5 _ rfl B1 Try.underlying23 Try.size23) rfl ⟨by first | (rw [HV3.out]; rfl) | rw [HV3.out], hb⟩
     · have hne : ((O : Int) != (Q : Int) - 1) = true := by simp; omega
       have HNE := Lib.hid (show odN n (ofN n k) m ≠ Q - 1 from by rw [← hO]; exact hE)
       have hkl : k < N0 := by
        apply Classical.byContradiction
        intro h
        have : k = N0 := by omega
        have h1 := HN3.out
        have h2 := HNE.out
        rw [this] at h2
        exact h2 h1
       clear hE hO
       go_upto_region 7 with (fail)
       have lt_B0 : (w.heap.size) < wr.heap.size := B0.lt
       have lt_B1 : (w.heap.size + 1) < wr.heap.size := B1.lt
       have hbase : w.heap.size ≤ wr.heap.size := hb.size
       refine zq Try.mixed (by kernel_rfl) (by kernel_rfl) (fun v => by (simp only [frL, Act.put, pA, pB, pC, Nat.reduceAdd, Nat.zero_add]; exact rfl))
        (fun L v W4 => Below w.heap.size w W4 ∧ wr.heap.size ≤ W4.heap.size ∧ Blk W4 (w.heap.size) 64 23 (m) ∧ Blk W4 (w.heap.size + 1) 64 23 (fun _ => 0) ∧ (L 0 = true → v 0 = (.int .i64 (n : Int))) ∧ (L 1 = true → v 1 = (.int .i64 (n : Int))) ∧ (L 2 = true → v 2 = (.int .i64 (k : Int))) ∧ (L 3 = true → v 3 = (.agg (zb 64 (ofN n k)))) ∧ (L 4 = true → v 4 = (.agg (zb 64 (m)))) ∧ (L 5 = true → v 5 = (.int .i64 (O : Int))) ∧ (L 6 = true → v 6 = (.int .i64 (n : Int))) ∧ (L 7 = true → v 7 = (.agg (zb 64 (m)))) ∧ (L 8 = true → v 8 = (.int .i64 (d : Int))) ∧ (L 9 = true → v 9 = (.int .i64 (Q : Int))) ∧ (L 10 = true → v 10 = (.int .i64 ((Q : Int) - 1))) ∧ (L 11 = true → v 11 = (.bool true))) ?_ ?_ ?_
       · intro v hv0
         exact ⟨hb.drew, Nat.le_refl _, B0.drew, B1.drew, (fun h => by cases h), (fun h => by cases h), (fun h => by cases h), (fun h => by cases h), (fun h => by cases h), (fun h => by cases h), (fun h => by cases h), (fun h => by cases h), (fun h => by cases h), (fun h => by cases h), (fun h => by cases h), (fun h => by cases h)⟩
       · refine (.cons rfl ?_ (.cons rfl ?_ (.cons rfl ?_ (.cons rfl ?_ (.cons rfl ?_ (.cons rfl ?_ (.cons rfl ?_ (.cons rfl ?_ (.cons rfl ?_ (.cons rfl ?_ (.cons rfl ?_ (.cons rfl ?_ (.nil _)))))))))))))
         all_goals intro L v W4 hd hn ⟨hB, hz, s0, s1, h0, h1, h2, h3, h4, h5, h6, h7, h8, h9, h10, h11⟩ K hK
         · go_wp2_with fail
           exact hK _ (.int .i64 (n : Int)) _ (by simp only [Act.put, pA, pB, pC ]) ⟨hB, hz, s0, s1, (fun _ => rfl), h1, h2, h3, h4, h5, h6, h7, h8, h9, h10, h11⟩
         · go_wp2_with fail
           exact hK _ (.int .i64 (n : Int)) _ (by simp only [Act.put, pA, pB, pC ]) ⟨hB, hz, s0, s1, h0, (fun _ => rfl), h2, h3, h4, h5, h6, h7, h8, h9, h10, h11⟩
         · go_wp2_with fail
           exact hK _ (.int .i64 (k : Int)) _ (by simp only [Act.put, pA, pB, pC ]) ⟨hB, hz, s0, s1, h0, h1, (fun _ => rfl), h3, h4, h5, h6, h7, h8, h9, h10, h11⟩
         · have e1 := h1 (zdq hd 1 rfl)
           have e2 := h2 (zdq hd 2 rfl)
           go_wp2_with (go_at_call 102; refine (HOI.out _).mono ?_; rintro e wy ⟨rfl, hy⟩)
           exact hK _ (.agg (zb 64 (ofN n k))) _ (by simp only [Act.put, pA, pB, pC, e1, e2]) ⟨hB.trans (hy.mono hB.size), (Nat.le_trans hz hy.size), s0.zw hy, s1.zw hy, h0, h1, h2, (fun _ => rfl), h4, h5, h6, h7, h8, h9, h10, h11⟩
         · refine zlc s0 Try.underlying23 Try.size23 ?_
           exact hK _ _ _ rfl ⟨hB, hz, s0, s1, h0, h1, h2, h3, (fun _ => rfl), h5, h6, h7, h8, h9, h10, h11⟩
         · have e0 := h0 (zdq hd 0 rfl)
           have e3 := h3 (zdq hd 3 rfl)
           have e4 := h4 (zdq hd 4 rfl)
           go_wp2_with (go_at_call 120; refine (HOK.out _).mono ?_; rintro e wy ⟨rfl, hy⟩)
           exact hK _ (.int .i64 (O : Int)) _ (by simp only [Act.put, pA, pB, pC, e0, e3, e4]) ⟨hB.trans (hy.mono hB.size), (Nat.le_trans hz hy.size), s0.zw hy, s1.zw hy, h0, h1, h2, h3, h4, (fun _ => rfl), h6, h7, h8, h9, h10, h11⟩
         · go_wp2_with fail
           exact hK _ (.int .i64 (n : Int)) _ (by simp only [Act.put, pA, pB, pC ]) ⟨hB, hz, s0, s1, h0, h1, h2, h3, h4, h5, (fun _ => rfl), h7, h8, h9, h10, h11⟩
         · refine zlc s0 Try.underlying23 Try.size23 ?_
           exact hK _ _ _ rfl ⟨hB, hz, s0, s1, h0, h1, h2, h3, h4, h5, h6, (fun _ => rfl), h8, h9, h10, h11⟩
         · have e7 := h7 (zdq hd 7 rfl)
           go_wp2_with (go_at_call 92; refine (HDG.out _).mono ?_; rintro e wy ⟨rfl, hy⟩)
           exact hK _ (.int .i64 (d : Int)) _ (by simp only [Act.put, pA, pB, pC, e7]) ⟨hB.trans (hy.mono hB.size), (Nat.le_trans hz hy.size), s0.zw hy, s1.zw hy, h0, h1, h2, h3, h4, h5, h6, h7, (fun _ => rfl), h9, h10, h11⟩
         · have e6 := h6 (zdq hd 6 rfl)
           have e8 := h8 (zdq hd 8 rfl)
           go_wp2_with (go_at_call 108; refine (HNO.out _).mono ?_; rintro e wy ⟨rfl, hy⟩)
           exact hK _ (.int .i64 (Q : Int)) _ (by simp only [Act.put, pA, pB, pC, e6, e8]) ⟨hB.trans (hy.mono hB.size), (Nat.le_trans hz hy.size), s0.zw hy, s1.zw hy, h0, h1, h2, h3, h4, h5, h6, h7, h8, (fun _ => rfl), h10, h11⟩
         · have e9 := h9 (zdq hd 9 rfl)
           go_wp2_with fail
           exact hK _ (.int .i64 ((Q : Int) - 1)) _ (by simp only [Act.put, pA, pB, pC, e9]) ⟨hB, hz, s0, s1, h0, h1, h2, h3, h4, h5, h6, h7, h8, h9, (fun _ => rfl), h11⟩
         · have e5 := h5 (zdq hd 5 rfl)
           have e10 := h10 (zdq hd 10 rfl)
           go_wp2_with fail
           exact hK _ (.bool true) _ (by simp only [Act.put, pA, pB, pC, e5, e10]) ⟨hB, hz, s0, s1, h0, h1, h2, h3, h4, h5, h6, h7, h8, h9, h10, (fun _ => rfl)⟩
       · intro L v W4 hL ⟨hB, hz, s0, s1, h0, h1, h2, h3, h4, h5, h6, h7, h8, h9, h10, h11⟩
         have e0 := h0 (hL 0 (by decide))
         have e1 := h1 (hL 1 (by decide))
         have e2 := h2 (hL 2 (by decide))
         have e3 := h3 (hL 3 (by decide))
         have e4 := h4 (hL 4 (by decide))
         have e5 := h5 (hL 5 (by decide))
         have e6 := h6 (hL 6 (by decide))
         have e7 := h7 (hL 7 (by decide))
         have e8 := h8 (hL 8 (by decide))
         have e9 := h9 (hL 9 (by decide))
         have e10 := h10 (hL 10 (by decide))
         have e11 := h11 (hL 11 (by decide))
         clear hL h0 h1 h2 h3 h4 h5 h6 h7 h8 h9 h10 h11
         simp only [Exit.then, e0, e1, e2, e3, e4, e5, e6, e7, e8, e9, e10, e11]
         clear e0 e1 e2 e3 e4 e5 e6 e7 e8 e9 e10 e11
         replace B0 := s0
         clear s0
         replace B1 := s1
         clear s1
         replace hb := hB
         clear hB
         clear hbase hz lt_B0 lt_B1
         go_wp2_with fail
         go_roundw
         case rel => exact ⟨k + 1, by go_num, by omega, by omega, Lib.hid (fun j h1 h2 => by
          by_cases e : j = k
          · subst e; exact HNE.out
          · exact hall.out j h1 (by omega)), hb, B0, B1⟩
         case measure => simp [intOf] <;> omega
theorem impl_PrimitiveOf_any (p : Int) (m : Nat → Nat) (hm : byte m) (w : World) :
 Calls Try.prog 54 #[.int .i64 p, .agg (zb 64 m)] w fun e w' => e = .returned (.tuple #[.agg (zb 64 (prW p (cut m)).1), .int .i64 (prW p (cut m)).2]) ∧ Below w.heap.size w w' := by
 have h := impl_Primitive_core p (cut m) (fun k => by unfold cut; split; exact hm k; omega) (fun k hk => by unfold cut; rw [if_neg (by omega)]) w
 rw [bcells_cut] at h
 exact h
end Go.Proofs.Ytoncepgcfifgbaa
end
section
namespace Go.Proofs.Ytoncepgcfifgbaa
open Go.RowKit
set_option linter.unusedVariables false
set_option linter.unusedSimpArgs false
set_option maxRecDepth 100000 in
set_option maxHeartbeats 1600000 in
theorem FnExactPrimitiveOf_walk (p : Int) (m : Nat → Nat) (hm : byte m) (w : World) :
 Calls Try.prog 13 #[.int .i64 p, .agg (zb 64 m)] w fun e w' => e = .returned (.bool true) ∧ Below w.heap.size w w' := by
 go_enter Try.func13, Try.ntmps13
 go_upto_region 1 with (fail)
 obtain ⟨wo, hwo⟩ : ∃ wo : World, wo = (w.alloc (.cells (zb 64 m) 22)) := ⟨_, rfl⟩
 have bm : Blk wo (w.heap.size) 64 22 m := by subst hwo; have := (Blk.new w 64 22 m); simpa using this
 have hb : Below w.heap.size w wo := by subst hwo; exact ((Below.refl _ _).alloc (Nat.le_refl _) _)
 rw [← hwo]
 clear hwo
 have ha : Below wo.heap.size wo wo := Below.refl _ _
 go_upto_region 2 with (first | refine zlb rfl 22 _ rfl _ rfl 64 22 _ (bm.below (by assumption) bm.lt) 5 Try.underlying22 Try.size22 ?_ | (go_at_call 26; refine (acc (toPoly_any _ hm _) (by assumption)).mono ?_; rintro e w1z ⟨rfl, hz, ha⟩) | (go_at_call 53; refine (acc (spec_PrimitiveOf_any p m hm _) (by assumption)).mono ?_; rintro e w1z ⟨rfl, hz, ha⟩) | refine wpList_store_new rfl 23 _ _ rfl _ 23 64 ((prW p (cut m)).1) rfl rfl rfl Try.size23 ?_)
 have hb7 := Blk.new w1z 64 23 ((prW p (cut m)).1)
 have hS1 := ha.trans ((zal w1z (.cells (zb 64 ((prW p (cut m)).1)) 23)).mono ha.size)
 clear ha
 obtain ⟨w1, hwx⟩ : ∃ v : World, v = w1z.alloc (.cells (zb 64 ((prW p (cut m)).1)) 23) := ⟨_, rfl⟩
 rw [← hwx] at hb7 hS1 ⊢
 clear hwx
 obtain ⟨b7, hbi⟩ : ∃ b : Nat, b = w1z.heap.size := ⟨_, rfl⟩
 rw [← hbi] at hb7 ⊢
 clear hbi
 replace bm := bm.zw hS1
 have ha : Below w1.heap.size w1 w1 := Below.refl _ _
 go_upto_region 3 with (first | refine zlb rfl 22 _ rfl _ rfl 64 22 _ (bm.below (by assumption) bm.lt) 5 Try.underlying22 Try.size22 ?_ | (go_at_call 26; refine (acc (toPoly_any _ hm _) (by assumption)).mono ?_; rintro e w2z ⟨rfl, hz, ha⟩) | (go_at_call 54; refine (acc (impl_PrimitiveOf_any p m hm _) (by assumption)).mono ?_; rintro e w2z ⟨rfl, hz, ha⟩) | refine wpList_store_new rfl 23 _ _ rfl _ 23 64 ((prW p (cut m)).1) rfl rfl rfl Try.size23 ?_)
 have hq7 := Blk.new w2z 64 23 ((prW p (cut m)).1)
 have hS2 := ha.trans ((zal w2z (.cells (zb 64 ((prW p (cut m)).1)) 23)).mono ha.size)
 clear ha
 obtain ⟨w2, hwx⟩ : ∃ v : World, v = w2z.alloc (.cells (zb 64 ((prW p (cut m)).1)) 23) := ⟨_, rfl⟩
 rw [← hwx] at hq7 hS2 ⊢
 clear hwx
 obtain ⟨q7, hbi⟩ : ∃ b : Nat, b = w2z.heap.size := ⟨_, rfl⟩
 rw [← hbi] at hq7 ⊢
 clear hbi
 replace hb7 := hb7.zw hS2
 have ha : Below w2.heap.size w2 w2 := Below.refl _ _
 have hne : (((prW p (cut m)).2) != ((prW p (cut m)).2)) = false := by simp
 go_wp2_with (first | refine zlb rfl 23 _ rfl _ rfl 64 23 _ (hq7.below (by assumption) hq7.lt) 5 Try.underlying23 Try.size23 ?_ | refine zlb rfl 23 _ rfl _ rfl 64 23 _ (hb7.below (by assumption) hb7.lt) 5 Try.underlying23 Try.size23 ?_ | (go_at_call 28; refine (acc (eqPoly_same _ _ (fun _ _ => rfl) _) (by assumption)).mono ?_; rintro e w3 ⟨rfl, h3, ha⟩))
 go_ret
 exact ⟨rfl, hb.trans ((hS1.trans ((hS2.trans (ha.mono hS2.size)).mono hS1.size)).mono hb.size)⟩
end Go.Proofs.Ytoncepgcfifgbaa
end
