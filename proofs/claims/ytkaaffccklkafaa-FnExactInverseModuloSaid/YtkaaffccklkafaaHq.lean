/-
  Plain mathematics: the factors of a polynomial, degree by degree.
-/
import Derived.Test.YtkaaffccklkafaaGq
set_option linter.unusedVariables false
namespace Go.Proofs.Ytkaaffccklkafaa
attribute [local irreducible] deg invN quoP resP
theorem lowf_next {p n : Nat} {a b : Nat → Nat} (hp : 2 ≤ p) (hl : lowf p n a) (hb : dv p (lz b) (lz a)) (h : ∀ N, N ∈ monL p n → ¬ dv p (lz (ofN p N)) (lz b)) : lowf p (n + 1) b := by
  intro g j hg hgb
  have h1 := hl g j hg (dv_trans hgb hb)
  by_cases e : j = n
  · exfalso
    subst e
    obtain ⟨v1, v2⟩ := mon_num hp hg.2.2.1 hg.2.1
    refine h _ v1 ?_
    rw [lz_congr v2]; exact hgb
  · omega
theorem lowf_one {p : Nat} (a : Nat → Nat) : lowf p 1 a := fun _ _ hg _ => hg.1
/-- as long as something is left, its degree is at least n -/
theorem low_deg {p n : Nat} {a : Nat → Nat} (hp : p = 2 ∨ p = 3 ∨ p = 5 ∨ p = 7) (ha : ∀ k, k < 64 → a k < p) (h1 : 1 ≤ deg a) (hl : lowf p n a) : (n : Int) ≤ deg a := by
  obtain ⟨g, j, hg, hga⟩ := irr_ex hp ha h1
  have h2 := hl g j hg hga
  have h3 := dv_deg ha hg.2.1 hga (by omega)
  omega
theorem run_z {p f n : Nat} {a : Nat → Nat} (h : deg a ≤ 0) : run p f n a = [] := by
  cases f with
  | zero => rfl
  | succ f => rw [run, if_pos h]
theorem run_s {p f n : Nat} {a : Nat → Nat} (h : ¬ deg a ≤ 0) : run p (f + 1) n a = (foR p (monL p n) a).1 ++ run p f (n + 1) (foR p (monL p n) a).2 := by
  rw [run, if_neg h]
/-- a stage with the common divisor C of a and T^(p^n) - T -/
theorem stage {p n : Nat} {a C : Nat → Nat} (hp : p = 2 ∨ p = 3 ∨ p = 5 ∨ p = 7) (hn : 1 ≤ n) (hn2 : n < 64) (ha : ∀ k, k < 64 → a k < p) (h0 : 0 ≤ deg a) (hl : lowf p n a)
    (hC : ∀ k, C k < p) (hm : ∃ d, mon C d) (hdv : ∀ c, dv p c (lz C) ↔ (dv p c (lz a) ∧ dv p c (FS p n))) :
    foI p (eqf p n (monL p n) C) a = foR p (monL p n) a ∧ okL p n (eqf p n (monL p n) C) := by
  classical
  have nd : (monL p n).Nodup := by unfold monL; exact List.nodup_range'
  have all : okL p n (monL p n) := fun N h => h
  have irrC : ∀ g j, irr p g j → dv p (lz g) (lz C) → j = n ∧ vl p g (n + 1) ∈ monL p n := by
    intro g j hg hgc
    obtain ⟨h1, h2⟩ := (hdv _).1 hgc
    have h3 := hl g j hg h1
    have h4 := (irr_T hp hg).2 n hn (dv_FS.1 h2)
    have e : j = n := by omega
    subst e
    exact ⟨rfl, (mon_num (by omega) hg.2.2.1 hg.2.1).1⟩
  have dvC : ∀ N, N ∈ monL p n → (dv p (lz (ofN p N)) (lz C) ↔ dv p (lz (ofN p N)) (lz a)) := by
    intro N hN
    constructor
    · intro h; exact ((hdv _).1 h).1
    · intro h
      have hi := mon_div_irr hp hn hn2 hl hN h
      exact (hdv _).2 ⟨h, dv_FS.2 (irr_T hp hi).1⟩
  have key := eqf_spec hp hn hn2 (fun N => decide (dv p (lz (ofN p N)) (lz a))) (monL p n) C all nd hC hm (fun N hN => by rw [dvC N hN]; simp) irrC (fun g j hg h => square_free hp hn hg ((hdv _).1 h).2)
  have okf : okL p n ((monL p n).filter (fun N => decide (dv p (lz (ofN p N)) (lz a)))) := fun N hN => (List.mem_filter.1 hN).1
  rw [key]
  refine ⟨?_, okf⟩
  rw [foI_eq hp hn hn2 _ a okf (List.Nodup.sublist List.filter_sublist nd) ha h0 hl (fun N hN => by simpa using (List.mem_filter.1 hN).2)]
  exact (foR_filter hp hn hn2 _ (fun N _ => by simp) (monL p n) a all ha h0 hl (dv_self _)).symm
/-- what is told of a list: irreducible ones that divide -/
theorem foR_mem {p n : Nat} (hp : p = 2 ∨ p = 3 ∨ p = 5 ∨ p = 7) (hn : 1 ≤ n) (hn2 : n < 64) : ∀ (ms : List Nat) (a : Nat → Nat), okL p n ms → (∀ k, k < 64 → a k < p) → 0 ≤ deg a → lowf p n a → ∀ x, x ∈ (foR p ms a).1 → x.1 ∈ ms ∧ irr p (ofN p x.1) n ∧ dv p (lz (ofN p x.1)) (lz a) ∧ 1 ≤ x.2 ∧ ((x.2 * n : Nat) : Int) ≤ deg a
  | [], _, _, _, _, _, x, hx => by cases hx
  | N :: ms, a, hms, ha, h0, hl, x, hx => by
    have hN := hms N (by simp)
    have hlt : ∀ k, ofN p N k < p := ofN_lt (by omega) N
    have hmN := mon_ofN (p := p) (by omega) hn2 hN
    have hms' : okL p n ms := fun M hM => hms M (by simp [hM])
    rw [foR] at hx
    by_cases hd : dv p (lz (ofN p N)) (lz a)
    · have hi := mon_div_irr hp hn hn2 hl hN hd
      obtain ⟨r1, r2, r3, r4, r5, r6, r7⟩ := dvo_spec hp hi 64 a ha h0 (by have := deg_bounds a; omega)
      have h6 := r6.1 hd
      rcases List.mem_append.1 hx with h | h
      · rw [if_pos h6] at h
        have := List.mem_singleton.1 h
        subst this
        exact ⟨by simp, hi, hd, h6, by show (((dvo p (ofN p N) 64 a).1 * n : Nat) : Int) ≤ deg a; omega⟩
      · obtain ⟨a1, a2, a3, a4, a5⟩ := foR_mem hp hn hn2 ms _ hms' r1 r2 (lowf_dv r5 hl) x h
        exact ⟨by simp [a1], a2, dv_trans a3 r5, a4, by omega⟩
    · rw [dvo_no hp ha (fun k _ => hlt k) (by rw [hmN.1]; omega) hd 64] at hx
      simp only [Nat.lt_irrefl, if_false, List.nil_append] at hx
      obtain ⟨a1, a2, a3, a4, a5⟩ := foR_mem hp hn hn2 ms _ hms' ha h0 hl x hx
      exact ⟨by simp [a1], a2, a3, a4, a5⟩
theorem run_mem {p : Nat} (hp : p = 2 ∨ p = 3 ∨ p = 5 ∨ p = 7) : ∀ (f n : Nat) (a : Nat → Nat), 1 ≤ n → (∀ k, k < 64 → a k < p) → 0 ≤ deg a → lowf p n a → ∀ x, x ∈ run p f n a → ∃ j, n ≤ j ∧ j < 64 ∧ x.1 ∈ monL p j ∧ irr p (ofN p x.1) j ∧ dv p (lz (ofN p x.1)) (lz a) ∧ 1 ≤ x.2 ∧ ((x.2 * j : Nat) : Int) ≤ deg a
  | 0, _, _, _, _, _, _, x, hx => by cases hx
  | f + 1, n, a, hn, ha, h0, hl, x, hx => by
    by_cases hz : deg a ≤ 0
    · rw [run_z hz] at hx; cases hx
    · rw [run_s hz] at hx
      have hlow := low_deg hp ha (by omega) hl
      have hn2 : n < 64 := by have := deg_bounds a; omega
      obtain ⟨s1, s2, s3, s4, s5⟩ := foR_spec hp hn hn2 (monL p n) a (fun _ h => h) ha h0 hl
      rcases List.mem_append.1 hx with h | h
      · obtain ⟨a1, a2, a3, a4, a5⟩ := foR_mem hp hn hn2 (monL p n) a (fun _ h => h) ha h0 hl x h
        exact ⟨n, Nat.le_refl _, hn2, a1, a2, a3, a4, a5⟩
      · obtain ⟨j, j1, j2, j3, j4, j5, j6, j7⟩ := run_mem hp f (n + 1) _ (by omega) s1 s2 (lowf_next (by omega) hl s4 s5) x h
        exact ⟨j, by omega, j2, j3, j4, dv_trans j5 s4, j6, by omega⟩
/-- nothing below the degree of an irreducible one -/
theorem foR_none {p n : Nat} (hp : p = 2 ∨ p = 3 ∨ p = 5 ∨ p = 7) (hn2 : n < 64) : ∀ (ms : List Nat) (a : Nat → Nat), okL p n ms → (∀ k, k < 64 → a k < p) → (∀ N, N ∈ ms → ¬ dv p (lz (ofN p N)) (lz a)) → foR p ms a = ([], a)
  | [], _, _, _, _ => rfl
  | N :: ms, a, hms, ha, h => by
    have hN := hms N (by simp)
    have hlt : ∀ k, ofN p N k < p := ofN_lt (by omega) N
    have hmN := mon_ofN (p := p) (by omega) hn2 hN
    rw [foR, dvo_no hp ha (fun k _ => hlt k) (by rw [hmN.1]; omega) (h N (by simp)) 64]
    have := foR_none hp hn2 ms a (fun M hM => hms M (by simp [hM])) ha (fun M hM => h M (by simp [hM]))
    simp only [Nat.lt_irrefl, if_false, List.nil_append]
    rw [this]
/-- of an irreducible one, but for a number, itself alone is told -/
theorem foR_own {p n : Nat} {g : Nat → Nat} (hp : p = 2 ∨ p = 3 ∨ p = 5 ∨ p = 7) (hn : 1 ≤ n) (hn2 : n < 64) (hg : irr p g n) : ∀ (ms : List Nat) (a : Nat → Nat), okL p n ms → ms.Nodup → (∀ k, k < 64 → a k < p) → deg a = (n : Int) → dv p (lz g) (lz a) → vl p g (n + 1) ∈ ms → lowf p n a → (foR p ms a).1 = [(vl p g (n + 1), 1)] ∧ deg (foR p ms a).2 = 0
  | [], _, _, _, _, _, _, h, _ => by cases h
  | N :: ms, a, hms, hnd, ha, hda, hga, hmem, hl => by
    have hN := hms N (by simp)
    have hlt : ∀ k, ofN p N k < p := ofN_lt (by omega) N
    have hmN := mon_ofN (p := p) (by omega) hn2 hN
    have hms' : okL p n ms := fun M hM => hms M (by simp [hM])
    rw [List.nodup_cons] at hnd
    obtain ⟨v1, v2⟩ := mon_num (p := p) (by omega) hg.2.2.1 hg.2.1
    -- who divides a is g
    have only : ∀ M, M ∈ monL p n → dv p (lz (ofN p M)) (lz a) → M = vl p g (n + 1) := by
      intro M hM h
      have hiM := mon_div_irr hp hn hn2 hl hM h
      obtain ⟨q1, q2⟩ := quo_exact hp ha (fun k _ => hg.2.2.1 k) hg.2.1 (by omega) hga
      rcases irr_mul hp hiM (fin_lz _) (fin_lz _) ((dv_congr q1).1 h) with h4 | h4
      · exfalso
        have := dv_deg (g := quoP p a g) (fun k _ => quoP_lt (by omega) k) hiM.2.1 h4 (by omega)
        omega
      · have hs := (irr_same hiM hg h4).2
        exact mon_inj (by omega) hn2 hM v1 (fun k hk => by rw [hs k hk, v2 k hk])
    by_cases e : N = vl p g (n + 1)
    · have hd : dv p (lz (ofN p N)) (lz a) := by rw [e, lz_congr v2]; exact hga
      have hi := mon_div_irr hp hn hn2 hl hN hd
      obtain ⟨r1, r2, r3, r4, r5, r6, r7⟩ := dvo_spec hp hi 64 a ha (by omega) (by omega)
      have h6 := r6.1 hd
      have h1 : (dvo p (ofN p N) 64 a).1 = 1 := by
        have : (dvo p (ofN p N) 64 a).1 * n ≤ 1 * n := by omega
        have := Nat.le_of_mul_le_mul_right this (by omega)
        omega
      have hd0 : deg (dvo p (ofN p N) 64 a).2 = 0 := by rw [h1] at r3; omega
      have hno : foR p ms (dvo p (ofN p N) 64 a).2 = ([], (dvo p (ofN p N) 64 a).2) := foR_none hp hn2 ms _ hms' r1 (fun M hM h => by
        have := dv_deg r1 (mon_ofN (p := p) (by omega) hn2 (hms' M hM)) h (by omega)
        omega)
      rw [foR, hno, if_pos h6, h1, e]
      refine ⟨by simp, ?_⟩
      show deg (dvo p (ofN p (vl p g (n + 1))) 64 a).2 = 0
      rw [← e]; exact hd0
    · have hd : ¬ dv p (lz (ofN p N)) (lz a) := fun h => e (only N hN h)
      have hno := dvo_no hp ha (fun k _ => hlt k) (by rw [hmN.1]; omega) hd 64
      have ih := foR_own hp hn hn2 hg ms a hms' hnd.2 ha hda hga (by
        rcases List.mem_cons.1 hmem with h | h
        · exact absurd h.symm e
        · exact h) hl
      rw [foR, hno]
      simpa using ih
/-- an irreducible one times a number: it is told alone, in whatever degree the search stands -/
theorem run_own {p d : Nat} {g : Nat → Nat} (hp : p = 2 ∨ p = 3 ∨ p = 5 ∨ p = 7) (hg : irr p g d) : ∀ (f n : Nat) (a : Nat → Nat), 1 ≤ n → n ≤ d → d < n + f → (∀ k, k < 64 → a k < p) → deg a = (d : Int) → dv p (lz g) (lz a) → run p f n a = [(vl p g (d + 1), 1)]
  | 0, n, a, _, h1, h2, _, _, _ => by omega
  | f + 1, n, a, hn, h1, h2, ha, hda, hga => by
    obtain ⟨d6, _, _⟩ := deg_top hda
    have hd1 := hg.1
    have hlow : lowf p d a := by
      intro x j hx hxa
      obtain ⟨q1, q2⟩ := quo_exact hp ha (fun k _ => hg.2.2.1 k) hg.2.1 (by omega) hga
      rcases irr_mul hp hx (fin_lz _) (fin_lz _) ((dv_congr q1).1 hxa) with h4 | h4
      · exfalso
        have := dv_deg (g := quoP p a g) (fun k _ => quoP_lt (by omega) k) hx.2.1 h4 (by omega)
        have := hx.1
        omega
      · have := (irr_same hx hg h4).1; omega
    rw [run_s (by omega)]
    by_cases e : n = d
    · subst e
      obtain ⟨o1, o2⟩ := foR_own hp hn d6 hg (monL p n) a (fun _ h => h) (by unfold monL; exact List.nodup_range') ha hda hga (mon_num (p := p) (by omega) hg.2.2.1 hg.2.1).1 hlow
      rw [o1, run_z (by omega)]; rfl
    · have hno := foR_none hp (by omega) (monL p n) a (fun _ h => h) ha (fun N hN h => by
        have hmN := mon_ofN (p := p) (n := n) (by omega) (by omega) hN
        obtain ⟨x, j, hx, hxd⟩ := irr_ex hp (fun k _ => ofN_lt (p := p) (by omega) N k) (f := ofN p N) (by rw [hmN.1]; omega)
        have h3 := hlow x j hx (dv_trans hxd h)
        have h4 := dv_deg (fun k _ => ofN_lt (p := p) (by omega) N k) hx.2.1 hxd (by rw [hmN.1]; omega)
        rw [hmN.1] at h4
        omega)
      rw [hno]
      exact run_own hp hg f (n + 1) a (by omega) (by omega) (by omega) ha hda hga
/-- what is left when two factors would exceed the degree -/
theorem left_irr {p n : Nat} {a : Nat → Nat} (hp : p = 2 ∨ p = 3 ∨ p = 5 ∨ p = 7) (ha : ∀ k, k < 64 → a k < p) (h1 : 1 ≤ deg a) (h2 : deg a < 2 * (n : Int)) (hl : lowf p n a) : ∃ g d, irr p g d ∧ deg a = (d : Int) ∧ dv p (lz g) (lz a) ∧ n ≤ d := by
  obtain ⟨g, j, hg, hga⟩ := irr_ex hp ha h1
  have h3 := hl g j hg hga
  obtain ⟨q1, q2⟩ := quo_exact hp ha (fun k _ => hg.2.2.1 k) hg.2.1 (by omega) hga
  have h4 := dv_deg ha hg.2.1 hga (by omega)
  by_cases hq : 1 ≤ deg (quoP p a g)
  · exfalso
    obtain ⟨x, i, hx, hxq⟩ := irr_ex hp (fun k _ => quoP_lt (p := p) (a := a) (b := g) (by omega) k) hq
    have h5 := hl x i hx (dv_trans hxq (dv_lz q1).1)
    have h6 := dv_deg (g := quoP p a g) (fun k _ => quoP_lt (p := p) (by omega) k) hx.2.1 hxq (by omega)
    omega
  · exact ⟨g, j, hg, by omega, hga, h3⟩
end Go.Proofs.Ytkaaffccklkafaa
