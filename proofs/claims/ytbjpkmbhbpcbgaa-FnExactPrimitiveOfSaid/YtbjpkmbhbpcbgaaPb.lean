/-
  Plain mathematics: there is a primitive residue.
-/
import Derived.Test.YtbjpkmbhbpcbgaaPa
import Derived.Test.YtbjpkmbhbpcbgaaWs
set_option linter.unusedVariables false
namespace Go.Proofs.Ytbjpkmbhbpcbgaa
open Rg
theorem ofN_small {p d N k : Nat} (hp : 2 ≤ p) (h : N < p ^ d) (hk : d ≤ k) : ofN p N k = 0 := by
  unfold ofN dgt
  rw [Nat.div_eq_of_lt (Nat.lt_of_lt_of_le h (Nat.pow_le_pow_right (by omega) hk))]
  exact Nat.zero_mod _
/-- some residue is no root of 1 of a lesser order -/
theorem prim_res {p d : Nat} {m : Nat → Nat} (hp : p = 2 ∨ p = 3 ∨ p = 5 ∨ p = 7) (hm : irr p m d) (h5 : d ≤ 5) :
    ∃ N, 1 ≤ N ∧ N < p ^ d ∧ ∀ q, 2 ≤ q → q ∣ p ^ d - 1 → ¬ rm p (lz m) (pwz (lz (ofN p N)) ((p ^ d - 1) / q)) oneS := by
  have hp0 : 0 < p := by omega
  have hE := irr_euc hp hm
  have hmS := mon_S hm.2.1
  have hd1 := hm.1
  have low : ∀ f g : Nat → Int, (∀ k, 0 ≤ f k ∧ f k < p) → (∀ k, 0 ≤ g k ∧ g k < p) → (∀ k, d ≤ k → f k = 0) → (∀ k, d ≤ k → g k = 0) → rm p (lz m) f g → ∀ k, f k = g k := by
    intro f g hf hg hf0 hg0 h k
    have := rm_unique (d := d) (v := 1) (by rw [hmS.1]; exact ⟨0, by omega⟩) hmS.2 (fun k hk => by rw [hf0 k hk, hg0 k hk]; exact ⟨0, by omega⟩) h k
    have h1 := hf k
    have h2 := hg k
    have := dvd_small this (by omega) (by omega)
    omega
  have lzb : ∀ N k, 0 ≤ lz (ofN p N) k ∧ lz (ofN p N) k < p := by
    intro N k
    unfold lz cut
    split
    · have := ofN_lt hp0 N k; omega
    · omega
  have lz0 : ∀ N, N < p ^ d → ∀ k, d ≤ k → lz (ofN p N) k = 0 := by
    intro N hN k hk
    unfold lz cut
    split
    · rw [ofN_small (by omega) hN hk]; rfl
    · rfl
  obtain ⟨x, hx, hq⟩ := prim_some (R := Res p (lz m)) (p := p) (d := d) (by
      intro a b hab
      induction a using res_ind with | h f hf =>
      induction b using res_ind with | h g hg =>
      have h1 := cl_eq.1 (hab : (cl (mz f g) (fin_mz hf hg) : Res p (lz m)) = cl zS fin_zS)
      rcases hE f g hf hg h1 with h | h
      · exact .inl (cl_eq.2 h)
      · exact .inr (cl_eq.2 h)) (by
      intro h
      have h1 := cl_eq.1 (h : (cl oneS fin_oneS : Res p (lz m)) = cl zS fin_zS)
      have := low oneS zS (fun k => by unfold oneS; split <;> omega) (fun k => by unfold zS; omega) (fun k hk => by unfold oneS; rw [if_neg (by omega)]) (fun k _ => rfl) h1 0
      simp [oneS, zS] at this) hp hd1 h5 ((List.range (p ^ d - 1)).map fun i => cl (lz (ofN p (i + 1))) (fin_lz _)) (by
      rw [List.nodup_iff_pairwise_ne, List.pairwise_map]
      refine List.Pairwise.imp_of_mem ?_ List.pairwise_lt_range
      intro i j hi hj hij heq
      have hi' : i < p ^ d - 1 := by simpa using hi
      have hj' : j < p ^ d - 1 := by simpa using hj
      have h1 := low _ _ (lzb _) (lzb _) (lz0 _ (by omega)) (lz0 _ (by omega)) (cl_eq.1 heq)
      have h2 : ∀ k, k < d → ofN p (i + 1) k = ofN p (j + 1) k := by
        intro k hk
        have := h1 k
        have hd : k < 64 := by omega
        unfold lz cut at this
        rw [if_pos hd, if_pos hd] at this
        omega
      have e1 := vl_ofN hp0 d (i + 1) (by omega)
      have e2 := vl_ofN hp0 d (j + 1) (by omega)
      rw [vl_congr d h2] at e1
      omega) (by simp)
  obtain ⟨i, hi, rfl⟩ := List.mem_map.1 hx
  have hi' : i < p ^ d - 1 := by simpa using hi
  refine ⟨i + 1, by omega, by omega, fun q h2 hq1 hc => hq q h2 hq1 ?_⟩
  have : pw (cl (lz (ofN p (i + 1))) (fin_lz _) : Res p (lz m)) ((p ^ d - 1) / q) = cl (pwz (lz (ofN p (i + 1))) ((p ^ d - 1) / q)) (fin_pwz (fin_lz _) _) := pw_cl (fin_lz _) _
  rw [this]
  exact cl_eq.2 hc
/-- the order stays, if no quotient of it leads to 1 -/
theorem odI_keep {T : Nat → Bool} {E : Nat} (h : ∀ q, 2 ≤ q → q ∣ E → T (E / q) = false) : ∀ f q l, 2 ≤ q → l ∣ E → (odI T f q l E).2 = E ∧ (odI T f q l E).1 ∣ E
  | 0, q, l, h2, hl => ⟨rfl, hl⟩
  | f + 1, q, l, h2, hl => by
    by_cases hq : l % q = 0
    · have hd : q ∣ l := Nat.dvd_of_mod_eq_zero hq
      rw [odI_no hq (h q h2 (Nat.dvd_trans hd hl))]
      exact odI_keep h f q (l / q) h2 (Nat.dvd_trans (Nat.div_dvd_of_dvd hd) hl)
    · rw [odI_stop hq]; exact ⟨rfl, hl⟩
theorem odO_keep {T : Nat → Bool} {E : Nat} (h : ∀ q, 2 ≤ q → q ∣ E → T (E / q) = false) : ∀ f q l, 2 ≤ q → l ∣ E → odO T f q l E = E
  | 0, q, l, h2, hl => rfl
  | f + 1, q, l, h2, hl => by
    by_cases h1 : 1 < l
    · obtain ⟨a, b⟩ := odI_keep h l q l h2 hl
      rw [odO_step h1 (l2 := (odI T l q l E).1) (o2 := E) (Prod.ext rfl a)]
      exact odO_keep h f (q + 1) _ (by omega) b
    · exact odO_stop h1
theorem pw_le5 {p d : Nat} (hp : p = 2 ∨ p = 3 ∨ p = 5 ∨ p = 7) (h5 : d ≤ 5) : p ^ d ≤ 16807 := by
  have h1 : p ^ d ≤ 7 ^ d := Nat.pow_le_pow_left (by omega) d
  have h2 : 7 ^ d ≤ 7 ^ 5 := Nat.pow_le_pow_right (by omega) h5
  have : 7 ^ 5 = 16807 := by decide
  omega
theorem eu_irr {p d : Nat} {m : Nat → Nat} (hp : p = 2 ∨ p = 3 ∨ p = 5 ∨ p = 7) (hm : irr p m d) (h5 : d ≤ 5) : euN p m = p ^ d - 1 := by
  unfold euN
  rw [run_own hp hm 64 1 m (Nat.le_refl _) hm.1 (by omega) (fun k _ => hm.2.2.1 k) hm.2.1.1 (dv_self _)]
  have h1 := mon_ofN (p := p) (n := d) (by omega) (by omega) (mon_num (by omega) hm.2.2.1 hm.2.1).1
  rw [euG, euG, euU, h1.1, Int.toNat_natCast, Nat.sub_self, Nat.mul_zero, Nat.pow_zero, Nat.mul_one, Nat.one_mul]
/-- there is a primitive residue -/
theorem prim_ex {p d : Nat} {m : Nat → Nat} (hp : p = 2 ∨ p = 3 ∨ p = 5 ∨ p = 7) (hm : irr p m d) (h5 : d ≤ 5) : ∃ N, 1 ≤ N ∧ N < p ^ d ∧ odN p (ofN p N) m = p ^ d - 1 := by
  obtain ⟨N, h1, h2, h3⟩ := prim_res hp hm h5
  refine ⟨N, h1, h2, ?_⟩
  unfold odN
  rw [eu_irr hp hm h5]
  refine odO_keep (fun q hq1 hq2 => ?_) _ _ _ (Nat.le_refl _) (Nat.dvd_refl _)
  cases ht : tsT p (ofN p N) m ((p ^ d - 1) / q) with
  | false => rfl
  | true =>
    exfalso
    unfold tsT at ht
    have hle := pw_le5 hp h5
    have hdiv : (p ^ d - 1) / q ≤ p ^ d - 1 := Nat.div_le_self _ _
    have hd0 : 0 ≤ deg m := by rw [hm.2.1.1]; omega
    have := (pmP_spec (k := (p ^ d - 1) / q) hp (fun i _ => ofN_lt (by omega) N i) (fun k _ => hm.2.2.1 k) hd0 (by omega)).2.2
    rw [lz_congr (eqN_iff.1 ht), one_lz] at this
    exact h3 q hq1 hq2 (rm_symm this)
end Go.Proofs.Ytbjpkmbhbpcbgaa
