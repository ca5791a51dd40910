/-
  Plain mathematics: trial division tells the same factors; a test of irreducibility.
-/
import Derived.Test.YtkaaffccklkafaaHq
set_option linter.unusedVariables false
namespace Go.Proofs.Ytkaaffccklkafaa
attribute [local irreducible] deg invN quoP resP
/-- trial division by those of the degree n, as long as two factors fit -/
def spI (p n : Nat) : List Nat → (Nat → Nat) → List (Nat × Nat) × (Nat → Nat)
  | [], a => ([], a)
  | N :: ms, a => if 2 * (n : Int) ≤ deg a then ((if 0 < (dvo p (ofN p N) 64 a).1 then [(N, (dvo p (ofN p N) 64 a).1)] else []) ++ (spI p n ms (dvo p (ofN p N) 64 a).2).1, (spI p n ms (dvo p (ofN p N) 64 a).2).2) else ([], a)
def spO (p : Nat) : Nat → Nat → (Nat → Nat) → List (Nat × Nat) × (Nat → Nat)
  | 0, _, a => ([], a)
  | f + 1, n, a => if 2 * (n : Int) ≤ deg a then ((spI p n (monL p n) a).1 ++ (spO p f (n + 1) (spI p n (monL p n) a).2).1, (spO p f (n + 1) (spI p n (monL p n) a).2).2) else ([], a)
/-- what is left, made monic -/
def monP (p : Nat) (a : Nat → Nat) : Nat → Nat := sclP p a (invN p (a (deg a).toNat))
def finL (p : Nat) (a : Nat → Nat) : List (Nat × Nat) := if 0 < deg a then [(vl p (monP p a) ((deg a).toNat + 1), 1)] else []
theorem finL_z {p : Nat} {a : Nat → Nat} (h : deg a ≤ 0) : finL p a = [] := by unfold finL; rw [if_neg (by omega)]
theorem finL_own {p d : Nat} {a g : Nat → Nat} (hp : p = 2 ∨ p = 3 ∨ p = 5 ∨ p = 7) (ha : ∀ k, k < 64 → a k < p) (hg : irr p g d) (hd : deg a = (d : Int)) (hga : dv p (lz g) (lz a)) : finL p a = [(vl p g (d + 1), 1)] := by
  have h1 := hg.1
  unfold finL
  rw [if_pos (by omega)]
  obtain ⟨m1, m2, m3, m4⟩ := made_mon hp ha hd
  obtain ⟨d6, _, _⟩ := deg_top hd
  have e : monP p a = sclP p a (invN p (a d)) := by unfold monP; rw [hd]; rfl
  have hs := mon_same (fun k _ => hg.2.2.1 k) (fun k _ => m2 k) hg.2.1 m1 ((m3 _).2 hga)
  rw [e, hd]
  have : vl p (sclP p a (invN p (a d))) (d + 1) = vl p g (d + 1) := vl_congr _ (fun k hk => (hs k (by omega)).symm)
  show [(vl p (sclP p a (invN p (a d))) (d + 1), 1)] = _
  rw [this]
/-- when two factors do not fit any more -/
theorem sp_stop {p n f : Nat} {a : Nat → Nat} (hp : p = 2 ∨ p = 3 ∨ p = 5 ∨ p = 7) (hn : 1 ≤ n) (hn2 : n < 64) (hf : 64 ≤ n + 1 + f) (ms : List Nat) (hms : okL p n ms) (hnd : ms.Nodup) (ha : ∀ k, k < 64 → a k < p) (h0 : 0 ≤ deg a) (hl : lowf p n a)
    (hcov : ∀ g, irr p g n → dv p (lz g) (lz a) → vl p g (n + 1) ∈ ms) (hlt : deg a < 2 * (n : Int)) : (foR p ms a).1 ++ run p f (n + 1) (foR p ms a).2 = finL p a := by
  by_cases hz : deg a ≤ 0
  · have hno := foR_none hp hn2 ms a hms ha (fun N hN h => by
      have := dv_deg ha (mon_ofN (p := p) (by omega) hn2 (hms N hN)) h h0
      omega)
    rw [hno, run_z hz, finL_z hz]; rfl
  · obtain ⟨g, d, hg, hd, hga, hnd2⟩ := left_irr hp ha (by omega) hlt hl
    rw [finL_own hp ha hg hd hga]
    by_cases e : n = d
    · subst e
      obtain ⟨o1, o2⟩ := foR_own hp hn hn2 hg ms a hms hnd ha hd hga (hcov g hg hga) hl
      rw [o1, run_z (by omega)]; rfl
    · obtain ⟨d6, _, _⟩ := deg_top hd
      have hno := foR_none hp hn2 ms a hms ha (fun N hN h => by
        have hi := mon_div_irr hp hn hn2 hl (hms N hN) h
        obtain ⟨q1, q2⟩ := quo_exact hp ha (fun k _ => hg.2.2.1 k) hg.2.1 h0 hga
        rcases irr_mul hp hi (fin_lz _) (fin_lz _) ((dv_congr q1).1 h) with h4 | h4
        · have := dv_deg (g := quoP p a g) (fun k _ => quoP_lt (by omega) k) hi.2.1 h4 (by omega)
          omega
        · exact e (irr_same hi hg h4).1)
      rw [hno, run_own hp hg f (n + 1) a (by omega) (by omega) (by omega) ha hd hga]; rfl
theorem spI_full {p n : Nat} (hp : p = 2 ∨ p = 3 ∨ p = 5 ∨ p = 7) : ∀ (ms : List Nat) (a : Nat → Nat), 2 * (n : Int) ≤ deg (spI p n ms a).2 → spI p n ms a = foR p ms a
  | [], _, _ => rfl
  | N :: ms, a, h => by
    by_cases hc : 2 * (n : Int) ≤ deg a
    · rw [spI, if_pos hc] at h ⊢
      have := spI_full hp ms _ h
      rw [foR, this]
    · rw [spI, if_neg hc] at h
      exact absurd h hc
theorem spI_eq {p n f : Nat} (hp : p = 2 ∨ p = 3 ∨ p = 5 ∨ p = 7) (hn : 1 ≤ n) (hn2 : n < 64) (hf : 64 ≤ n + 1 + f) : ∀ (ms : List Nat) (a : Nat → Nat), okL p n ms → ms.Nodup → (∀ k, k < 64 → a k < p) → 0 ≤ deg a → lowf p n a → (∀ g, irr p g n → dv p (lz g) (lz a) → vl p g (n + 1) ∈ ms) →
    (foR p ms a).1 ++ run p f (n + 1) (foR p ms a).2 = (spI p n ms a).1 ++ (if 2 * (n : Int) ≤ deg (spI p n ms a).2 then run p f (n + 1) (spI p n ms a).2 else finL p (spI p n ms a).2)
  | [], a, hms, hnd, ha, h0, hl, hcov => by
    by_cases hc : 2 * (n : Int) ≤ deg a
    · show [] ++ run p f (n + 1) a = [] ++ (if 2 * (n : Int) ≤ deg a then _ else _)
      rw [if_pos hc]; rfl
    · have := sp_stop hp hn hn2 hf [] hms hnd ha h0 hl hcov (by omega)
      rw [this]
      show finL p a = [] ++ (if 2 * (n : Int) ≤ deg a then _ else finL p a)
      rw [if_neg hc]; rfl
  | N :: ms, a, hms, hnd, ha, h0, hl, hcov => by
    by_cases hc : 2 * (n : Int) ≤ deg a
    · rw [spI, if_pos hc, foR]
      have hN := hms N (by simp)
      have hlt : ∀ k, ofN p N k < p := ofN_lt (by omega) N
      have hmN := mon_ofN (p := p) (by omega) hn2 hN
      have hms' : okL p n ms := fun M hM => hms M (by simp [hM])
      rw [List.nodup_cons] at hnd
      simp only [List.append_assoc]
      congr 1
      by_cases hd : dv p (lz (ofN p N)) (lz a)
      · have hi := mon_div_irr hp hn hn2 hl hN hd
        obtain ⟨r1, r2, r3, r4, r5, r6, r7⟩ := dvo_spec hp hi 64 a ha h0 (by have := deg_bounds a; omega)
        refine spI_eq hp hn hn2 hf ms _ hms' hnd.2 r1 r2 (lowf_dv r5 hl) (fun g hg hga => ?_)
        rcases List.mem_cons.1 (hcov g hg (dv_trans hga r5)) with h | h
        · exfalso
          have hv := (mon_num (p := p) (by omega) hg.2.2.1 hg.2.1).2
          rw [h] at hv
          rw [← lz_congr hv] at hga
          exact r4 hga
        · exact h
      · rw [dvo_no hp ha (fun k _ => hlt k) (by rw [hmN.1]; omega) hd 64]
        refine spI_eq hp hn hn2 hf ms a hms' hnd.2 ha h0 hl (fun g hg hga => ?_)
        rcases List.mem_cons.1 (hcov g hg hga) with h | h
        · exfalso
          have hv := (mon_num (p := p) (by omega) hg.2.2.1 hg.2.1).2
          rw [h] at hv
          rw [← lz_congr hv] at hga
          exact hd hga
        · exact h
    · have := sp_stop hp hn hn2 hf (N :: ms) hms hnd ha h0 hl hcov (by omega)
      rw [this, spI, if_neg hc]
      show finL p a = [] ++ (if 2 * (n : Int) ≤ deg a then _ else finL p a)
      rw [if_neg hc]; rfl
theorem cov_all {p n : Nat} (hp : 2 ≤ p) (a : Nat → Nat) : ∀ g, irr p g n → dv p (lz g) (lz a) → vl p g (n + 1) ∈ monL p n := fun g hg _ => (mon_num hp hg.2.2.1 hg.2.1).1
theorem spO_eq {p : Nat} (hp : p = 2 ∨ p = 3 ∨ p = 5 ∨ p = 7) : ∀ (f n : Nat) (a : Nat → Nat), 1 ≤ n → 64 ≤ n + f → (∀ k, k < 64 → a k < p) → 0 ≤ deg a → lowf p n a → run p f n a = (spO p f n a).1 ++ finL p (spO p f n a).2
  | 0, n, a, hn, hf, ha, h0, hl => by
    have hz : deg a ≤ 0 := by
      by_cases h : deg a ≤ 0
      · exact h
      · have := low_deg hp ha (by omega) hl
        have := deg_bounds a
        omega
    show [] = [] ++ finL p a
    rw [finL_z hz]; rfl
  | f + 1, n, a, hn, hf, ha, h0, hl => by
    have nd : (monL p n).Nodup := by unfold monL; exact List.nodup_range'
    by_cases hz : deg a ≤ 0
    · rw [run_z hz, spO, if_neg (by omega)]
      show [] = [] ++ finL p a
      rw [finL_z hz]; rfl
    · have hlow := low_deg hp ha (by omega) hl
      have hn2 : n < 64 := by have := deg_bounds a; omega
      rw [run_s hz]
      by_cases hc : 2 * (n : Int) ≤ deg a
      · rw [spI_eq hp hn hn2 (by omega) (monL p n) a (fun _ h => h) nd ha h0 hl (cov_all (by omega) a), spO, if_pos hc]
        show _ = ((spI p n (monL p n) a).1 ++ (spO p f (n + 1) (spI p n (monL p n) a).2).1) ++ finL p (spO p f (n + 1) (spI p n (monL p n) a).2).2
        rw [List.append_assoc]
        congr 1
        by_cases h2 : 2 * (n : Int) ≤ deg (spI p n (monL p n) a).2
        · rw [if_pos h2]
          have hfull := spI_full hp (monL p n) a h2
          obtain ⟨s1, s2, s3, s4, s5⟩ := foR_spec hp hn hn2 (monL p n) a (fun _ h => h) ha h0 hl
          rw [hfull]
          exact spO_eq hp f (n + 1) _ (by omega) (by omega) s1 s2 (lowf_next (by omega) hl s4 s5)
        · rw [if_neg h2]
          cases f with
          | zero => rfl
          | succ f =>
            rw [spO, if_neg (by push_cast; omega)]; rfl
      · rw [sp_stop hp hn hn2 (by omega) (monL p n) (fun _ h => h) nd ha h0 hl (cov_all (by omega) a) (by omega), spO, if_neg hc]; rfl
/-- what was told does not divide what is left -/
theorem spI_left {p n : Nat} (hp : p = 2 ∨ p = 3 ∨ p = 5 ∨ p = 7) (hn : 1 ≤ n) (hn2 : n < 64) : ∀ (ms : List Nat) (a : Nat → Nat), okL p n ms → (∀ k, k < 64 → a k < p) → 0 ≤ deg a → lowf p n a →
    (∀ k, k < 64 → (spI p n ms a).2 k < p) ∧ 0 ≤ deg (spI p n ms a).2 ∧ dv p (lz (spI p n ms a).2) (lz a) ∧ ∀ x, x ∈ (spI p n ms a).1 → x.1 ∈ monL p n ∧ 1 ≤ x.2 ∧ ((x.2 : Nat) : Int) ≤ deg a ∧ ¬ dv p (lz (ofN p x.1)) (lz (spI p n ms a).2)
  | [], a, _, ha, h0, _ => ⟨ha, h0, dv_self _, fun x hx => by cases hx⟩
  | N :: ms, a, hms, ha, h0, hl => by
    by_cases hc : 2 * (n : Int) ≤ deg a
    · rw [spI, if_pos hc]
      have hN := hms N (by simp)
      have hlt : ∀ k, ofN p N k < p := ofN_lt (by omega) N
      have hmN := mon_ofN (p := p) (by omega) hn2 hN
      have hms' : okL p n ms := fun M hM => hms M (by simp [hM])
      by_cases hd : dv p (lz (ofN p N)) (lz a)
      · have hi := mon_div_irr hp hn hn2 hl hN hd
        obtain ⟨r1, r2, r3, r4, r5, r6, r7⟩ := dvo_spec hp hi 64 a ha h0 (by have := deg_bounds a; omega)
        obtain ⟨s1, s2, s3, s4⟩ := spI_left hp hn hn2 ms _ hms' r1 r2 (lowf_dv r5 hl)
        refine ⟨s1, s2, dv_trans s3 r5, fun x hx => ?_⟩
        rcases List.mem_append.1 hx with h | h
        · rw [if_pos (r6.1 hd)] at h
          have := List.mem_singleton.1 h
          subst this
          refine ⟨hN, r6.1 hd, ?_, fun h => r4 (dv_trans h s3)⟩
          show (((dvo p (ofN p N) 64 a).1 : Nat) : Int) ≤ deg a
          have : (dvo p (ofN p N) 64 a).1 * 1 ≤ (dvo p (ofN p N) 64 a).1 * n := Nat.mul_le_mul_left _ hn
          omega
        · obtain ⟨a1, a2, a3, a4⟩ := s4 x h
          exact ⟨a1, a2, by omega, a4⟩
      · rw [dvo_no hp ha (fun k _ => hlt k) (by rw [hmN.1]; omega) hd 64]
        obtain ⟨s1, s2, s3, s4⟩ := spI_left hp hn hn2 ms a hms' ha h0 hl
        simp only [Nat.lt_irrefl, if_false, List.nil_append]
        exact ⟨s1, s2, s3, s4⟩
    · rw [spI, if_neg hc]
      exact ⟨ha, h0, dv_self _, fun x hx => by cases hx⟩
/-- the least factor -/
theorem irr_half {p n : Nat} {m : Nat → Nat} (hp : p = 2 ∨ p = 3 ∨ p = 5 ∨ p = 7) (hm : ∀ k, m k < p) (hn : 1 ≤ n) (hmon : mon m n) (h : ¬ irr p m n) : ∃ g j, irr p g j ∧ dv p (lz g) (lz m) ∧ 2 * j ≤ n := by
  apply Classical.byContradiction
  intro hno
  obtain ⟨n6, _, _⟩ := deg_top hmon.1
  have h0 : 1 ≤ deg m := by rw [hmon.1]; omega
  -- all factors are of more than half the degree
  have hl : lowf p (n / 2 + 1) m := by
    intro g j hg hgm
    by_cases hlt : n / 2 + 1 ≤ j
    · exact hlt
    · exact absurd ⟨g, j, hg, hgm, by omega⟩ hno
  obtain ⟨g, d, hg, hd, hga, _⟩ := left_irr hp (fun k _ => hm k) h0 (by rw [hmon.1]; omega) hl
  have e : d = n := by have := hmon.1; omega
  subst e
  exact h (irr_congr (mon_same (fun k _ => hg.2.2.1 k) (fun k _ => hm k) hg.2.1 hmon hga) hm hg)
theorem irr_test {p n : Nat} {m : Nat → Nat} (hp : p = 2 ∨ p = 3 ∨ p = 5 ∨ p = 7) (hm : ∀ k, m k < p) (hn : 1 ≤ n) (hmon : mon m n) (C : Nat → Nat → Nat) (hC : ∀ j, 1 ≤ j → 2 * j ≤ n → (∀ k, C j k < p) ∧ (∃ d, mon (C j) d) ∧ ∀ c, dv p c (lz (C j)) ↔ (dv p c (lz m) ∧ dv p c (FS p j))) :
    irr p m n ↔ ∀ j, 1 ≤ j → 2 * j ≤ n → deg (C j) = 0 := by
  constructor
  · intro hi j h1 h2
    obtain ⟨c1, ⟨d, c2⟩, c3⟩ := hC j h1 h2
    obtain ⟨x1, x2⟩ := (c3 _).1 (dv_self _)
    rcases hi.2.2.2 _ d c1 c2 x1 with h | h
    · rw [c2.1, h]; rfl
    · exfalso
      have h3 := dv_deg (fun k _ => hm k) c2 x1 (by rw [hmon.1]; omega)
      have e : d = n := by have := hmon.1; omega
      subst e
      have hs := mon_same (fun k _ => c1 k) (fun k _ => hm k) c2 hmon x1
      rw [lz_congr hs] at x2
      have := (irr_T hp hi).2 j h1 (dv_FS.1 x2)
      omega
  · intro h
    apply Classical.byContradiction
    intro hno
    obtain ⟨g, j, hg, hgm, hj⟩ := irr_half hp hm hn hmon hno
    have h1 := hg.1
    obtain ⟨c1, ⟨d, c2⟩, c3⟩ := hC j h1 hj
    have hx := (c3 _).2 ⟨hgm, dv_FS.2 (irr_T hp hg).1⟩
    have := dv_deg (fun k _ => c1 k) hg.2.1 hx (by rw [c2.1]; omega)
    rw [h j h1 hj] at this
    omega
/-- the first factor is the polynomial itself if it is irreducible, and only then -/
theorem head_irr {p d : Nat} {m : Nat → Nat} (hp : p = 2 ∨ p = 3 ∨ p = 5 ∨ p = 7) (hm : ∀ k, m k < p) (hd : 1 ≤ d) (hmon : mon m d) : ∃ x l, run p 64 1 m = x :: l ∧ ((∀ k, k < 64 → ofN p x.1 k = m k) ↔ irr p m d) := by
  obtain ⟨d6, _, _⟩ := deg_top hmon.1
  by_cases hi : irr p m d
  · refine ⟨_, _, run_own hp hi 64 1 m (Nat.le_refl _) hd (by omega) (fun k _ => hm k) hmon.1 (dv_self _), fun _ => hi, fun _ => (mon_num (p := p) (by omega) hm hmon).2⟩
  · have hne : run p 64 1 m ≠ [] := by
      intro h
      rw [spO_eq hp 64 1 m (Nat.le_refl _) (by omega) (fun k _ => hm k) (by rw [hmon.1]; omega) (lowf_one m)] at h
      obtain ⟨g, j, hg, hgm, hj⟩ := irr_half hp hm hd hmon hi
      have key : ∀ f n a, 1 ≤ n → 64 ≤ n + f → (∀ k, k < 64 → a k < p) → 1 ≤ deg a → lowf p n a → run p f n a ≠ [] := by
        intro f
        induction f with
        | zero => intro n a hn hf ha h1 hl; have := low_deg hp ha h1 hl; have := deg_bounds a; omega
        | succ f ih =>
          intro n a hn hf ha h1 hl
          have hlow := low_deg hp ha h1 hl
          have hn2 : n < 64 := by have := deg_bounds a; omega
          rw [run_s (by omega)]
          intro he
          obtain ⟨e1, e2⟩ := List.append_eq_nil_iff.1 he
          obtain ⟨s1, s2, s3, s4, s5⟩ := foR_spec hp hn hn2 (monL p n) a (fun _ h => h) ha (by omega) hl
          by_cases h2 : 1 ≤ deg (foR p (monL p n) a).2
          · exact ih (n + 1) _ (by omega) (by omega) s1 h2 (lowf_next (by omega) hl s4 s5) e2
          · -- nothing was told, so nothing was taken away
            have nothing : ∀ (ms : List Nat) (b : Nat → Nat), okL p n ms → (∀ k, k < 64 → b k < p) → 0 ≤ deg b → lowf p n b → (foR p ms b).1 = [] → (foR p ms b).2 = b := by
              intro ms
              induction ms with
              | nil => intro b _ _ _ _ _; rfl
              | cons N ms ih2 =>
                intro b hms hb h0 hlb he
                have hN := hms N (by simp)
                have hmN := mon_ofN (p := p) (by omega) hn2 hN
                rw [foR] at he ⊢
                obtain ⟨x1, x2⟩ := List.append_eq_nil_iff.1 he
                by_cases hd : dv p (lz (ofN p N)) (lz b)
                · exfalso
                  have hi := mon_div_irr hp hn hn2 hlb hN hd
                  obtain ⟨_, _, _, _, _, r6, _⟩ := dvo_spec hp hi 64 b hb h0 (by have := deg_bounds b; omega)
                  rw [if_pos (r6.1 hd)] at x1
                  cases x1
                · rw [dvo_no hp hb (fun k _ => ofN_lt (by omega) N k) (by rw [hmN.1]; omega) hd 64] at x2 ⊢
                  exact ih2 b (fun M hM => hms M (by simp [hM])) hb h0 hlb x2
            rw [nothing (monL p n) a (fun _ h => h) ha (by omega) hl e1] at h2
            exact h2 h1
      rw [← spO_eq hp 64 1 m (Nat.le_refl _) (by omega) (fun k _ => hm k) (by rw [hmon.1]; omega) (lowf_one m)] at h
      exact key 64 1 m (Nat.le_refl _) (by omega) (fun k _ => hm k) (by rw [hmon.1]; omega) (lowf_one m) h
    obtain ⟨x, l, hx⟩ := List.exists_cons_of_ne_nil hne
    refine ⟨x, l, hx, fun h => ?_, fun h => absurd h hi⟩
    obtain ⟨j, j1, j2, j3, j4, j5, j6, j7⟩ := run_mem hp 64 1 m (Nat.le_refl _) (fun k _ => hm k) (by rw [hmon.1]; omega) (lowf_one m) x (by rw [hx]; simp)
    have hmj := mon_ofN (p := p) (by omega) j2 j3
    have e : j = d := by
      have := deg_congr h
      rw [hmj.1, hmon.1] at this
      omega
    subst e
    exact irr_congr h hm j4
end Go.Proofs.Ytkaaffccklkafaa
