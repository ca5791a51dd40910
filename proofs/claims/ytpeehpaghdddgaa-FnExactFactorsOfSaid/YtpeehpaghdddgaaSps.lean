/-
  Plain mathematics of the model's trial division, from the front of the list.
-/
import Derived.Test.YtpeehpaghdddgaaMa
namespace Go.Proofs.Ytpeehpaghdddgaa
open Go.RowKit
set_option linter.unusedVariables false
attribute [local irreducible] deg invN quoP resP
def spN (p x : Nat) (a : Nat → Nat) : List (Nat × Nat) := if 0 < (dvo p (ofN p x) 64 a).1 then [(x, (dvo p (ofN p x) 64 a).1)] else []
theorem spI_stay {p n : Nat} {a : Nat → Nat} (h : ¬ 2 * (n : Int) ≤ deg a) : ∀ ms, spI p n ms a = ([], a)
  | [] => rfl
  | N :: ms => by rw [spI, if_neg h]
theorem spI_snoc {p n x : Nat} : ∀ (pre : List Nat) (a : Nat → Nat), spI p n (pre ++ [x]) a =
    if 2 * (n : Int) ≤ deg (spI p n pre a).2 then ((spI p n pre a).1 ++ spN p x (spI p n pre a).2, (dvo p (ofN p x) 64 (spI p n pre a).2).2) else spI p n pre a
  | [], a => by
    have e : spI p n ([] : List Nat) a = ([], a) := rfl
    rw [List.nil_append, e]
    show spI p n [x] a = if 2 * (n : Int) ≤ deg a then ([] ++ spN p x a, (dvo p (ofN p x) 64 a).2) else ([], a)
    by_cases h : 2 * (n : Int) ≤ deg a
    · rw [if_pos h, spI, if_pos h]
      show (spN p x a ++ [], (dvo p (ofN p x) 64 a).2) = _
      rw [List.append_nil, List.nil_append]
    · rw [if_neg h, spI_stay h]
  | N :: pre, a => by
    rw [List.cons_append]
    by_cases h : 2 * (n : Int) ≤ deg a
    · rw [spI, if_pos h, spI_snoc pre, spI, if_pos h]
      by_cases h3 : 2 * (n : Int) ≤ deg (spI p n pre (dvo p (ofN p N) 64 a).2).2
      · rw [if_pos h3, if_pos h3, List.append_assoc]
      · rw [if_neg h3, if_neg h3]
    · rw [spI_stay h, spI_stay h, if_neg h]
theorem spI_more {p n : Nat} {a : Nat → Nat} : ∀ (pre ms : List Nat), ¬ 2 * (n : Int) ≤ deg (spI p n pre a).2 → spI p n (pre ++ ms) a = spI p n pre a
  | pre, [], _ => by rw [List.append_nil]
  | pre, x :: ms, h => by
    have e : spI p n (pre ++ [x]) a = spI p n pre a := by rw [spI_snoc, if_neg h]
    rw [show pre ++ x :: ms = (pre ++ [x]) ++ ms by simp, spI_more (pre ++ [x]) ms (by rw [e]; exact h), e]
theorem spO_step {p f n : Nat} {a : Nat → Nat} (h : 2 * (n : Int) ≤ deg a) : spO p (f + 1) n a = ((spI p n (monL p n) a).1 ++ (spO p f (n + 1) (spI p n (monL p n) a).2).1, (spO p f (n + 1) (spI p n (monL p n) a).2).2) := by rw [spO, if_pos h]
theorem spO_stop {p f n : Nat} {a : Nat → Nat} (h : ¬ 2 * (n : Int) ≤ deg a) : spO p f n a = ([], a) := by
  cases f with
  | zero => rfl
  | succ f => rw [spO, if_neg h]
/-- what was told does not divide what is left -/
theorem spO_left {p : Nat} (hp : p = 2 ∨ p = 3 ∨ p = 5 ∨ p = 7) : ∀ (f n : Nat) (a : Nat → Nat), 1 ≤ n → (∀ k, k < 64 → a k < p) → 0 ≤ deg a → lowf p n a →
    (∀ k, k < 64 → (spO p f n a).2 k < p) ∧ 0 ≤ deg (spO p f n a).2 ∧ dv p (lz (spO p f n a).2) (lz a) ∧ ∀ x, x ∈ (spO p f n a).1 → ¬ dv p (lz (ofN p x.1)) (lz (spO p f n a).2)
  | 0, n, a, _, ha, h0, _ => ⟨ha, h0, dv_self _, fun x hx => by cases hx⟩
  | f + 1, n, a, hn, ha, h0, hl => by
    by_cases h : 2 * (n : Int) ≤ deg a
    · have hn2 : n < 64 := by have := deg_bounds a; omega
      have hI := spI_left hp hn hn2 (monL p n) a (fun _ h => h) ha h0 hl
      obtain ⟨s1, s2, s3, s4⟩ := hI
      rw [spO_step h]
      by_cases hc : 2 * (n : Int) ≤ deg (spI p n (monL p n) a).2
      · have hfull := spI_full hp (monL p n) a hc
        obtain ⟨r1, r2, r3, r4, r5⟩ := foR_spec hp hn hn2 (monL p n) a (fun _ h => h) ha h0 hl
        obtain ⟨t1, t2, t3, t4⟩ := spO_left hp f (n + 1) (spI p n (monL p n) a).2 (by omega) s1 s2 (by rw [hfull]; exact lowf_next (by omega) hl r4 r5)
        refine ⟨t1, t2, dv_trans t3 s3, fun x hx hd => ?_⟩
        rcases List.mem_append.1 hx with h1 | h1
        · exact (s4 x h1).2.2.2 (dv_trans hd t3)
        · exact t4 x h1 hd
      · rw [spO_stop (f := f) (n := n + 1) (by push_cast; omega)]
        refine ⟨s1, s2, s3, fun x hx hd => ?_⟩
        rw [List.append_nil] at hx
        exact (s4 x hx).2.2.2 hd
    · rw [spO_stop h]
      exact ⟨ha, h0, dv_self _, fun x hx => by cases hx⟩
end Go.Proofs.Ytpeehpaghdddgaa
