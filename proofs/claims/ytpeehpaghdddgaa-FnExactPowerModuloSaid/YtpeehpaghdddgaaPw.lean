/-
  Plain mathematics of powers by squares, for any product.
-/
import Derived.Test.YtpeehpaghdddgaaMa
namespace Go.Proofs.Ytpeehpaghdddgaa
open Go.RowKit
/-- squares and products, at most f more rounds -/
def pgR (mul : (Nat → Nat) → (Nat → Nat) → (Nat → Nat)) : Nat → Nat → (Nat → Nat) → (Nat → Nat) → (Nat → Nat)
  | 0, _, o, _ => o
  | f + 1, k, o, s => if k = 0 then o else pgR mul f (k / 2) (if k % 2 = 1 then mul o s else o) (mul s s)
theorem pgR_z {mul : (Nat → Nat) → (Nat → Nat) → (Nat → Nat)} {f : Nat} {o s : Nat → Nat} : pgR mul f 0 o s = o := by cases f <;> simp [pgR]
theorem pgR_odd {mul : (Nat → Nat) → (Nat → Nat) → (Nat → Nat)} {f k : Nat} {o s : Nat → Nat} (h0 : k ≠ 0) (h : k % 2 = 1) : pgR mul (f + 1) k o s = pgR mul f (k / 2) (mul o s) (mul s s) := by rw [pgR, if_neg h0, if_pos h]
theorem pgR_even {mul : (Nat → Nat) → (Nat → Nat) → (Nat → Nat)} {f k : Nat} {o s : Nat → Nat} (h0 : k ≠ 0) (h : ¬ k % 2 = 1) : pgR mul (f + 1) k o s = pgR mul f (k / 2) o (mul s s) := by rw [pgR, if_neg h0, if_neg h]
/-- the last round wants no square -/
theorem pgR_one {mul : (Nat → Nat) → (Nat → Nat) → (Nat → Nat)} {f : Nat} {o s : Nat → Nat} : pgR mul (f + 1) 1 o s = mul o s := by
  rw [pgR_odd (by decide) (by decide)]
  exact pgR_z
/-- the power's residue, if the product is one modulo m -/
theorem pgR_rm {p : Nat} {m : Nat → Nat} {mul : (Nat → Nat) → (Nat → Nat) → (Nat → Nat)} (hM : ∀ x y, rm p (lz m) (mz (lz x) (lz y)) (lz (mul x y))) : ∀ (f k : Nat) (o s : Nat → Nat), k < 2 ^ f → rm p (lz m) (lz (pgR mul f k o s)) (mz (lz o) (pwz (lz s) k))
  | 0, k, o, s, hk => by
    rw [Nat.pow_zero] at hk
    obtain rfl : k = 0 := by omega
    have : mz (lz o) (pwz (lz s) 0) = lz o := by rw [mz_comm]; exact mz_one _
    rw [this]; exact rm_refl _ _ _
  | f + 1, k, o, s, hk => by
    by_cases hz : k = 0
    · subst hz
      rw [pgR_z]
      have : mz (lz o) (pwz (lz s) 0) = lz o := by rw [mz_comm]; exact mz_one _
      rw [this]; exact rm_refl _ _ _
    · have hk2 : k / 2 < 2 ^ f := by rw [Nat.pow_succ] at hk; omega
      have sq : rm p (lz m) (pwz (lz (mul s s)) (k / 2)) (pwz (lz s) (2 * (k / 2))) := by
        rw [pwz_two]
        exact rm_symm (rm_pwz (fin_mz (fin_lz s) (fin_lz s)) (fin_lz _) (hM s s) _)
      by_cases ho2 : k % 2 = 1
      · rw [pgR_odd hz ho2]
        refine rm_trans (pgR_rm hM f (k / 2) (mul o s) (mul s s) hk2) ?_
        have e : mz (lz o) (pwz (lz s) k) = mz (mz (lz o) (lz s)) (pwz (lz s) (2 * (k / 2))) := by
          have : k = 2 * (k / 2) + 1 := by omega
          conv => lhs; rw [this]
          show mz (lz o) (mz (pwz (lz s) (2 * (k / 2))) (lz s)) = _
          rw [mz_comm (pwz (lz s) (2 * (k / 2))), ← mz_assoc]
        rw [e]
        exact rm_mz2 (fin_pwz (fin_lz _) _) (fin_mz (fin_lz o) (fin_lz s)) (rm_symm (hM o s)) sq
      · rw [pgR_even hz ho2]
        refine rm_trans (pgR_rm hM f (k / 2) o (mul s s) hk2) ?_
        have e : k = 2 * (k / 2) := by omega
        conv => rhs; rw [e]
        exact rm_mz2 (fin_pwz (fin_lz _) _) (fin_lz o) (rm_refl _ _ _) sq
theorem pgR_lt {p : Nat} {mul : (Nat → Nat) → (Nat → Nat) → (Nat → Nat)} (hM : ∀ x y i, i < 64 → mul x y i < p) : ∀ (f k : Nat) (o s : Nat → Nat), (∀ i, i < 64 → o i < p) → ∀ i, i < 64 → pgR mul f k o s i < p
  | 0, _, _, _, ho => ho
  | f + 1, k, o, s, ho => by
    by_cases hz : k = 0
    · subst hz; rw [pgR_z]; exact ho
    · by_cases h2 : k % 2 = 1
      · rw [pgR_odd hz h2]; exact pgR_lt hM f _ _ _ (hM o s)
      · rw [pgR_even hz h2]; exact pgR_lt hM f _ _ _ ho
theorem cut_cut (f : Nat → Nat) : cut (cut f) = cut f := by funext i; unfold cut; split <;> rfl
theorem lz_cut (f : Nat → Nat) : lz (cut f) = lz f := by unfold lz; rw [cut_cut]
theorem cut_eq {f g : Nat → Nat} (h : ∀ i, i < 64 → f i = g i) : cut f = cut g := by
  funext i; unfold cut
  split
  · rename_i hi; exact h i hi
  · rfl
theorem bcells_cut (f : Nat → Nat) : bcells 64 (cut f) = bcells 64 f := by unfold bcells; rw [bl_cut]
/-- the program's product modulo m, of what the arrays hold -/
def mmC (p : Nat) (m x y : Nat → Nat) : Nat → Nat := mmP p (cut x) (cut y) m
/-- the program's power modulo m -/
def pmI (p : Nat) (a : Nat → Nat) (k : Nat) (m : Nat → Nat) : Nat → Nat := resP p (pgR (mmC p m) 64 k oneP a) m
theorem mmC_lt {p : Nat} (hp : 0 < p) (m x y : Nat → Nat) (i : Nat) (hi : i < 64) : mmC p m x y i < p := mmP_lt hp i (by omega)
theorem pmI_lt {p : Nat} (hp : 2 ≤ p) {a m : Nat → Nat} {k : Nat} (i : Nat) (hi : i < 64) : pmI p a k m i < p :=
  resP_lt (by omega) (pgR_lt (mmC_lt (by omega) m) 64 k oneP a (fun i _ => by unfold oneP; split <;> omega)) i hi
theorem pmI_spec {p k : Nat} {a m : Nat → Nat} (hp : p = 2 ∨ p = 3 ∨ p = 5 ∨ p = 7) (hm : ∀ k, k < 64 → m k < p) (h0 : 0 ≤ deg m) (hk : k < 2 ^ 64) :
    deg (pmI p a k m) < deg m ∧ rm p (lz m) (lz (pmI p a k m)) (pwz (lz a) k) := by
  have hp0 : 0 < p := by omega
  have h1 : ∀ i, i < 64 → pgR (mmC p m) 64 k oneP a i < p := pgR_lt (mmC_lt hp0 m) 64 k oneP a (fun i _ => by unfold oneP; split <;> omega)
  refine ⟨(resP_deg hp h1 hm h0).1, ?_⟩
  unfold pmI
  refine rm_trans (rm_symm (res_rm hp h1 hm h0)) ?_
  have := pgR_rm (p := p) (m := m) (mul := mmC p m) (fun x y => by
    have := mmP_rm (a := cut x) (b := cut y) hp hm h0
    rw [lz_cut, lz_cut] at this
    exact this) 64 k oneP a hk
  rw [one_lz] at this
  have e3 : mz oneS (pwz (lz a) k) = pwz (lz a) k := mz_one _
  rwa [e3] at this
/-- residues are told by their class -/
theorem res_sameN {p : Nat} {a b m : Nat → Nat} (hp : p = 2 ∨ p = 3 ∨ p = 5 ∨ p = 7) (ha : ∀ k, k < 64 → a k < p) (hb : ∀ k, k < 64 → b k < p) (hm : ∀ k, k < 64 → m k < p) (h0 : 0 ≤ deg m) (h1 : deg a < deg m) (h2 : deg b < deg m) (h : rm p (lz m) (lz a) (lz b)) : ∀ k, k < 64 → a k = b k := by
  have hp0 : 0 < p := by omega
  obtain ⟨d, hd⟩ : ∃ d : Nat, deg m = (d : Int) := ⟨(deg m).toNat, by omega⟩
  obtain ⟨d6, m2, m3⟩ := deg_top hd
  obtain ⟨_, _, iv3, _⟩ := invF hp m2 (hm d d6)
  have low : ∀ (f : Nat → Nat), deg f < (d : Int) → ∀ k, d ≤ k → lz f k = 0 := by
    intro f hf k hk
    unfold lz
    by_cases hk2 : k < 64
    · rw [cut_in _ hk2, zero_above (f := f) (k := k) (by omega) hk2]; rfl
    · rw [cut_zero _ (by omega)]; rfl
  have hu := rm_unique (d := d) (v := (invN p (m d) : Int)) (m := lz m) (f := lz a) (g := lz b) (p := p) (by
    unfold lz; rw [cut_in m d6]
    have := mod_dvd p (invN p (m d) * m d)
    rw [iv3] at this
    obtain ⟨x, hx⟩ := this
    rw [Int.natCast_mul, Int.mul_comm] at hx
    exact ⟨-x, by rw [Int.mul_neg]; omega⟩) (fun k hk => lz_above hd hk) (fun k hk => by
    rw [low _ (by omega) k hk, low _ (by omega) k hk]; exact ⟨0, by omega⟩) h
  exact lz_inj ha hb hu
end Go.Proofs.Ytpeehpaghdddgaa
