/-
  Plain mathematics: different irreducible factors of one degree, found one after the other.
-/
import Derived.Test.YtkaaffccklkafaaFq
set_option linter.unusedVariables false
namespace Go.Proofs.Ytkaaffccklkafaa
attribute [local irreducible] deg invN quoP resP
/-- all of a list, divided out one after the other: what is told, and what is left -/
def foR (p : Nat) : List Nat → (Nat → Nat) → List (Nat × Nat) × (Nat → Nat)
  | [], a => ([], a)
  | N :: ms, a => ((if 0 < (dvo p (ofN p N) 64 a).1 then [(N, (dvo p (ofN p N) 64 a).1)] else []) ++ (foR p ms (dvo p (ofN p N) 64 a).2).1, (foR p ms (dvo p (ofN p N) 64 a).2).2)
/-- degree by degree -/
def run (p : Nat) : Nat → Nat → (Nat → Nat) → List (Nat × Nat)
  | 0, _, _ => []
  | f + 1, n, a => if deg a ≤ 0 then [] else (foR p (monL p n) a).1 ++ run p f (n + 1) (foR p (monL p n) a).2
/-- what holds along a list -/
def okL (p n : Nat) (ms : List Nat) : Prop := ∀ N, N ∈ ms → N ∈ monL p n
theorem foR_spec {p n : Nat} (hp : p = 2 ∨ p = 3 ∨ p = 5 ∨ p = 7) (hn : 1 ≤ n) (hn2 : n < 64) : ∀ (ms : List Nat) (a : Nat → Nat), okL p n ms → (∀ k, k < 64 → a k < p) → 0 ≤ deg a → lowf p n a →
    (∀ k, k < 64 → (foR p ms a).2 k < p) ∧ 0 ≤ deg (foR p ms a).2 ∧ deg (foR p ms a).2 ≤ deg a ∧ dv p (lz (foR p ms a).2) (lz a) ∧ (∀ N, N ∈ ms → ¬ dv p (lz (ofN p N)) (lz (foR p ms a).2))
  | [], a, _, ha, h0, _ => ⟨ha, h0, Int.le_refl _, dv_self _, fun N hN => by cases hN⟩
  | N :: ms, a, hms, ha, h0, hl => by
    have hN := hms N (by simp)
    have hlt : ∀ k, ofN p N k < p := ofN_lt (by omega) N
    have hmN := mon_ofN (by omega) hn2 hN
    by_cases hd : dv p (lz (ofN p N)) (lz a)
    · have hi := mon_div_irr hp hn hn2 hl hN hd
      obtain ⟨r1, r2, r3, r4, r5, r6, r7⟩ := dvo_spec hp hi 64 a ha h0 (by have := deg_bounds a; omega)
      obtain ⟨s1, s2, s3, s4, s5⟩ := foR_spec hp hn hn2 ms (dvo p (ofN p N) 64 a).2 (fun M hM => hms M (by simp [hM])) r1 r2 (lowf_dv r5 hl)
      refine ⟨s1, s2, by show deg (foR p ms (dvo p (ofN p N) 64 a).2).2 ≤ deg a; omega, dv_trans s4 r5, fun M hM => ?_⟩
      rcases List.mem_cons.1 hM with h | h
      · subst h; exact fun h => r4 (dv_trans h s4)
      · exact s5 M h
    · have hno := dvo_no hp ha (fun k _ => hlt k) (by rw [hmN.1]; omega) hd 64
      obtain ⟨s1, s2, s3, s4, s5⟩ := foR_spec hp hn hn2 ms a (fun M hM => hms M (by simp [hM])) ha h0 hl
      rw [foR, hno]
      refine ⟨s1, s2, s3, s4, fun M hM => ?_⟩
      rcases List.mem_cons.1 hM with h | h
      · subst h; exact fun h => hd (dv_trans h s4)
      · exact s5 M h
/-- those that do not divide may be left out -/
theorem foR_filter {p n : Nat} (hp : p = 2 ∨ p = 3 ∨ p = 5 ∨ p = 7) (hn : 1 ≤ n) (hn2 : n < 64) {a : Nat → Nat} (P : Nat → Bool) (hP : ∀ N, N ∈ monL p n → (P N = true ↔ dv p (lz (ofN p N)) (lz a))) : ∀ (ms : List Nat) (b : Nat → Nat), okL p n ms → (∀ k, k < 64 → b k < p) → 0 ≤ deg b → lowf p n b → dv p (lz b) (lz a) →
    foR p ms b = foR p (ms.filter P) b
  | [], _, _, _, _, _, _ => rfl
  | N :: ms, b, hms, hb, h0, hl, hba => by
    have hN := hms N (by simp)
    have hlt : ∀ k, ofN p N k < p := ofN_lt (by omega) N
    have hmN := mon_ofN (by omega) hn2 hN
    have hms' : okL p n ms := fun M hM => hms M (by simp [hM])
    by_cases hd : dv p (lz (ofN p N)) (lz b)
    · have hi := mon_div_irr hp hn hn2 hl hN hd
      obtain ⟨r1, r2, r3, r4, r5, r6, r7⟩ := dvo_spec hp hi 64 b hb h0 (by have := deg_bounds b; omega)
      have ih := foR_filter hp hn hn2 P hP ms (dvo p (ofN p N) 64 b).2 hms' r1 r2 (lowf_dv r5 hl) (dv_trans r5 hba)
      rw [List.filter_cons, if_pos ((hP N hN).2 (dv_trans hd hba))]
      rw [foR, foR, ih]
    · have hno := dvo_no hp hb (fun k _ => hlt k) (by rw [hmN.1]; omega) hd 64
      have ih := foR_filter hp hn hn2 P hP ms b hms' hb h0 hl hba
      rw [foR, hno, List.filter_cons]
      by_cases hq : P N = true
      · rw [if_pos hq, foR, hno, ih]
      · rw [if_neg hq, ← ih]; rfl
/-- the impl's loop: each of the list is told -/
def foI (p : Nat) : List Nat → (Nat → Nat) → List (Nat × Nat) × (Nat → Nat)
  | [], a => ([], a)
  | N :: ms, a => ((N, (dvo p (ofN p N) 64 a).1) :: (foI p ms (dvo p (ofN p N) 64 a).2).1, (foI p ms (dvo p (ofN p N) 64 a).2).2)
theorem foI_eq {p n : Nat} (hp : p = 2 ∨ p = 3 ∨ p = 5 ∨ p = 7) (hn : 1 ≤ n) (hn2 : n < 64) : ∀ (ms : List Nat) (a : Nat → Nat), okL p n ms → ms.Nodup → (∀ k, k < 64 → a k < p) → 0 ≤ deg a → lowf p n a → (∀ N, N ∈ ms → dv p (lz (ofN p N)) (lz a)) →
    foI p ms a = foR p ms a
  | [], _, _, _, _, _, _, _ => rfl
  | N :: ms, a, hms, hnd, ha, h0, hl, hall => by
    have hN := hms N (by simp)
    have hd := hall N (by simp)
    have hi := mon_div_irr hp hn hn2 hl hN hd
    rw [List.nodup_cons] at hnd
    obtain ⟨r1, r2, r3, r4, r5, r6, r7⟩ := dvo_spec hp hi 64 a ha h0 (by have := deg_bounds a; omega)
    have ih := foI_eq hp hn hn2 ms (dvo p (ofN p N) 64 a).2 (fun M hM => hms M (by simp [hM])) hnd.2 r1 r2 (lowf_dv r5 hl) (fun M hM => by
      have hM' := hms M (by simp [hM])
      have hdM := hall M (by simp [hM])
      rcases r7 _ n (mon_div_irr hp hn hn2 hl hM' hdM) hdM with h | h
      · have := mon_inj (by omega) hn2 hM' hN h
        subst this; exact absurd hM hnd.1
      · exact h)
    rw [foI, foR, ih, if_pos (r6.1 hd)]; rfl
/-- different irreducible ones of the degree n that divide: found one after the other -/
def eqf (p n : Nat) : List Nat → (Nat → Nat) → List Nat
  | [], a => if deg a = (n : Int) then [vl p a (n + 1)] else []
  | N :: ms, a => if deg a ≤ (n : Int) then (if deg a = (n : Int) then [vl p a (n + 1)] else []) else if deg (resP p a (ofN p N)) < 0 then N :: eqf p n ms (quoP p a (ofN p N)) else eqf p n ms a
theorem lz_one_of_deg0 {p : Nat} {a : Nat → Nat} (hm : ∃ d, mon a d) (h : deg a ≤ 0) : lz a = oneS := by
  obtain ⟨d, hd⟩ := hm
  have e : d = 0 := by have := hd.1; omega
  subst e
  exact one_of_mon0 hd
theorem dv_one_deg {p j : Nat} {g : Nat → Nat} (hp : 2 ≤ p) (hm : mon g j) (h : dv p (lz g) oneS) : j = 0 := by
  have e : oneS = lz oneP := by
    funext k; unfold lz oneS
    by_cases hk : k < 64
    · rw [cut_in _ hk]; unfold oneP; split <;> rfl
    · rw [cut_zero _ (by omega), if_neg (by omega)]; rfl
  rw [e] at h
  have := dv_deg (g := oneP) (fun k _ => by unfold oneP; split <;> omega) hm h (by rw [deg_one]; omega)
  rw [deg_one] at this
  omega
theorem eqf_spec {p n : Nat} (hp : p = 2 ∨ p = 3 ∨ p = 5 ∨ p = 7) (hn : 1 ≤ n) (hn2 : n < 64) (P : Nat → Bool) : ∀ (ms : List Nat) (a : Nat → Nat), okL p n ms → ms.Nodup → (∀ k, a k < p) → (∃ d, mon a d) →
    (∀ N, N ∈ ms → (P N = true ↔ dv p (lz (ofN p N)) (lz a))) → (∀ g j, irr p g j → dv p (lz g) (lz a) → j = n ∧ vl p g (n + 1) ∈ ms) → (∀ g j, irr p g j → ¬ dv p (mz (lz g) (lz g)) (lz a)) →
    eqf p n ms a = ms.filter P := by
  intro ms
  -- what is left when the degree is at most n
  have stop : ∀ (ms : List Nat) (a : Nat → Nat), okL p n ms → ms.Nodup → (∀ k, a k < p) → (∃ d, mon a d) → (∀ N, N ∈ ms → (P N = true ↔ dv p (lz (ofN p N)) (lz a))) → (∀ g j, irr p g j → dv p (lz g) (lz a) → j = n ∧ vl p g (n + 1) ∈ ms) → deg a ≤ (n : Int) →
      (if deg a = (n : Int) then [vl p a (n + 1)] else []) = ms.filter P := by
    intro ms a hms hnd ha hmon hP hirr hle
    obtain ⟨d, hd⟩ := hmon
    by_cases he : deg a = (n : Int)
    · rw [if_pos he]
      have e : d = n := by have := hd.1; omega
      subst e
      obtain ⟨g, j, hg, hga⟩ := irr_ex hp (fun k _ => ha k) (f := a) (by omega)
      obtain ⟨hj, hmem⟩ := hirr g j hg hga
      subst hj
      have same := mon_same (fun k _ => hg.2.2.1 k) (fun k _ => ha k) hg.2.1 hd hga
      have hv : vl p g (j + 1) = vl p a (j + 1) := vl_congr _ (fun k hk => same k (by omega))
      rw [hv] at hmem
      obtain ⟨v1, v2⟩ := mon_num (by omega) ha hd
      have uniq : ∀ N, N ∈ ms → (P N = true ↔ N = vl p a (j + 1)) := by
        intro N hN
        rw [hP N hN]
        constructor
        · intro h
          have hs := mon_same (fun k _ => ofN_lt (by omega) N k) (fun k _ => ha k) (mon_ofN (by omega) hn2 (hms N hN)) hd h
          exact mon_inj (by omega) hn2 (hms N hN) v1 (fun k hk => by rw [hs k hk, v2 k hk])
        · intro h
          subst h
          rw [lz_congr v2]
          exact dv_self _
      symm
      -- a list without repetition, one alone
      have one : ∀ (l : List Nat) (x : Nat), l.Nodup → x ∈ l → (∀ N, N ∈ l → (P N = true ↔ N = x)) → l.filter P = [x] := by
        intro l x
        induction l with
        | nil => intro _ h; cases h
        | cons y l ih =>
          intro hnd hx hu
          rw [List.nodup_cons] at hnd
          rw [List.filter_cons]
          by_cases hy : y = x
          · subst hy
            rw [if_pos ((hu y (by simp)).2 rfl)]
            have : l.filter P = [] := List.filter_eq_nil_iff.2 (fun N hN h => by
              have := (hu N (by simp [hN])).1 h
              subst this; exact hnd.1 hN)
            rw [this]
          · rw [if_neg (fun h => hy ((hu y (by simp)).1 h))]
            refine ih hnd.2 ?_ (fun N hN => hu N (by simp [hN]))
            rcases List.mem_cons.1 hx with h | h
            · exact absurd h.symm hy
            · exact h
      exact one ms _ hnd hmem uniq
    · rw [if_neg he]
      symm
      refine List.filter_eq_nil_iff.2 (fun N hN h => ?_)
      have h1 := (hP N hN).1 h
      have hmN := mon_ofN (p := p) (by omega) hn2 (hms N hN)
      have := dv_deg (fun k _ => ha k) hmN h1 (by rw [hd.1]; omega)
      omega
  induction ms with
  | nil =>
    intro a hms hnd ha hmon hP hirr hsq
    have hle : deg a ≤ (n : Int) := by
      by_cases h : deg a ≤ (n : Int)
      · exact h
      · exfalso
        obtain ⟨g, j, hg, hga⟩ := irr_ex hp (fun k _ => ha k) (f := a) (by omega)
        have := (hirr g j hg hga).2
        cases this
    exact stop [] a hms hnd ha hmon hP hirr hle
  | cons N ms ih =>
    intro a hms hnd ha hmon hP hirr hsq
    by_cases hle : deg a ≤ (n : Int)
    · rw [eqf, if_pos hle]
      exact stop (N :: ms) a hms hnd ha hmon hP hirr hle
    · rw [eqf, if_neg hle]
      have hN := hms N (by simp)
      have hlt : ∀ k, ofN p N k < p := ofN_lt (by omega) N
      have hmN := mon_ofN (p := p) (by omega) hn2 hN
      have hnd' := List.nodup_cons.1 hnd
      have hms' : okL p n ms := fun M hM => hms M (by simp [hM])
      have hlow : lowf p n a := fun g j hg hga => by rw [(hirr g j hg hga).1]; exact Nat.le_refl _
      by_cases hd : dv p (lz (ofN p N)) (lz a)
      · rw [if_pos ((res_zero_iff hp (fun k _ => ha k) (fun k _ => hlt k) (by rw [hmN.1]; omega)).2 hd), List.filter_cons, if_pos ((hP N (by simp)).2 hd)]
        have hi := mon_div_irr hp hn hn2 hlow hN hd
        obtain ⟨q1, q2⟩ := quo_exact hp (fun k _ => ha k) (fun k _ => hlt k) hmN (by omega) hd
        have hnot : ¬ dv p (lz (ofN p N)) (lz (quoP p a (ofN p N))) := by
          intro h
          refine hsq _ n hi ((dv_congr q1).2 ?_)
          obtain ⟨x, hx, hc⟩ := dv_ex.1 h
          refine dv_ex.2 ⟨x, hx, ?_⟩
          rw [← mz_assoc]
          exact cg_mz hc
        congr 1
        have hdq : ∃ d : Nat, deg (quoP p a (ofN p N)) = (d : Int) := ⟨(deg (quoP p a (ofN p N))).toNat, by omega⟩
        obtain ⟨d, hd2⟩ := hdq
        have hqlt : ∀ k, quoP p a (ofN p N) k < p := quoP_lt (by omega)
        refine ih (quoP p a (ofN p N)) hms' hnd'.2 hqlt ⟨d, hd2, ?_⟩ (fun M hM => ?_) (fun g j hg hga => ?_) (fun g j hg h => hsq g j hg (dv_trans h (dv_lz q1).1))
        · -- the leading coefficient
          obtain ⟨D, hD⟩ := hmon
          obtain ⟨d6, _, _⟩ := deg_top hd2
          obtain ⟨D6, _, _⟩ := deg_top hD.1
          have eD : D = d + n := by have := hD.1; omega
          have h1 := q1 D
          have h2 : (p : Int) ∣ mz (lz (quoP p a (ofN p N))) (lz (ofN p N)) D - lz (quoP p a (ofN p N)) d * lz (ofN p N) (D - d) := by
            refine cs_but (t := fun i => lz (quoP p a (ofN p N)) i * lz (ofN p N) (D - i)) _ (by omega) (fun i hi hne => ?_)
            by_cases hlt2 : d < i
            · rw [lz_above hd2 hlt2, Int.zero_mul]; exact ⟨0, by omega⟩
            · rw [lz_above hmN.1 (by omega), Int.mul_zero]; exact ⟨0, by omega⟩
          have e1 : lz a D = 1 := by unfold lz; rw [cut_in _ D6, hD.2]; rfl
          have e2 : lz (ofN p N) (D - d) = 1 := by rw [eD, show d + n - d = n by omega]; unfold lz; rw [cut_in _ hn2, hmN.2]; rfl
          have e3 : lz (quoP p a (ofN p N)) d = (quoP p a (ofN p N) d : Int) := by unfold lz; rw [cut_in _ d6]
          rw [e1] at h1
          rw [e2, e3, Int.mul_one] at h2
          have h3 := Int.dvd_add h1 h2
          have h4 : (p : Int) ∣ 1 - (quoP p a (ofN p N) d : Int) := by
            rwa [show 1 - mz (lz (quoP p a (ofN p N))) (lz (ofN p N)) D + (mz (lz (quoP p a (ofN p N))) (lz (ofN p N)) D - (quoP p a (ofN p N) d : Int)) = 1 - (quoP p a (ofN p N) d : Int) by omega] at h3
          have := hqlt d
          have := dvd_small h4 (by omega) (by omega)
          omega
        · have hM' := hms M (by simp [hM])
          rw [hP M (by simp [hM])]
          constructor
          · intro h
            have hiM := mon_div_irr hp hn hn2 hlow hM' h
            rcases irr_mul hp hiM (fin_lz _) (fin_lz _) ((dv_congr q1).1 h) with h4 | h4
            · exact h4
            · have := mon_inj (by omega) hn2 hM' hN (irr_same hiM hi h4).2
              subst this; exact absurd hM hnd'.1
          · intro h; exact dv_trans h (dv_lz q1).1
        · obtain ⟨a1, a2⟩ := hirr g j hg (dv_trans hga (dv_lz q1).1)
          refine ⟨a1, ?_⟩
          rcases List.mem_cons.1 a2 with h | h
          · exfalso
            subst a1
            have hv := (mon_num (p := p) (by omega) hg.2.2.1 hg.2.1).2
            rw [h] at hv
            rw [← lz_congr hv] at hga
            exact hnot hga
          · exact h
      · rw [if_neg (fun h => hd ((res_zero_iff hp (fun k _ => ha k) (fun k _ => hlt k) (by rw [hmN.1]; omega)).1 h)), List.filter_cons, if_neg (fun h => hd ((hP N (by simp)).1 h))]
        refine ih a hms' hnd'.2 ha hmon (fun M hM => hP M (by simp [hM])) (fun g j hg hga => ?_) hsq
        obtain ⟨a1, a2⟩ := hirr g j hg hga
        refine ⟨a1, ?_⟩
        rcases List.mem_cons.1 a2 with h | h
        · exfalso
          subst a1
          have hv := (mon_num (p := p) (by omega) hg.2.2.1 hg.2.1).2
          rw [h] at hv
          rw [← lz_congr hv] at hga
          exact hd hga
        · exact h
end Go.Proofs.Ytkaaffccklkafaa
