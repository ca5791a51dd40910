/-
  Plain mathematics: powers by squares are powers by repeated products.
-/
import Derived.Test.YtbjpkmbhbpcbgaaWp
set_option linter.unusedVariables false
namespace Go.Proofs.Ytbjpkmbhbpcbgaa
theorem prd_le {p : Nat} {f g : Nat → Nat} {a b : Nat} (hp : 0 < p) (hf : deg f ≤ (a : Int)) (hg : deg g ≤ (b : Int)) : deg (prd p f g) ≤ ((a + b : Nat) : Int) :=
  deg_le (by omega) (fun k h1 _ => prd_above hp (by omega))
theorem cg_same {p : Nat} {f g : Nat → Nat} (hf : ∀ k, k < 64 → f k < p) (hg : ∀ k, k < 64 → g k < p) (h : cg p (lz f) (lz g)) : ∀ k, k < 64 → f k = g k := by
  intro k hk
  have h1 := h k
  unfold lz cut at h1
  rw [if_pos hk, if_pos hk] at h1
  have := hf k hk
  have := hg k hk
  have := dvd_small h1 (by omega) (by omega)
  omega
/-- the power by squares, where all fits -/
theorem pgR_cg {p : Nat} (hp : 0 < p) : ∀ (n k : Nat) (r s : Nat → Nat) (t d : Nat), k < 2 ^ n → deg r ≤ (t : Int) → deg s ≤ (d : Int) → t + k * d ≤ 63 → cg p (lz (pgR (prd p) n k r s)) (mz (lz r) (pwz (lz s) k))
  | n, 0, r, s, t, d, _, _, _, _ => by
    rw [pgR_z]
    have : mz (lz r) (pwz (lz s) 0) = lz r := by rw [mz_comm]; exact mz_one _
    rw [this]; exact cg_refl _ _
  | 0, k + 1, r, s, t, d, hk, _, _, _ => by rw [Nat.pow_zero] at hk; omega
  | n + 1, 1, r, s, t, d, hk, hr, hs, hf => by
    rw [pgR_one]
    have e : pwz (lz s) 1 = lz s := mz_one _
    rw [e]
    exact prd_cg hp (by omega)
  | n + 1, k + 2, r, s, t, d, hk, hr, hs, hf => by
    have hk2 : (k + 2) / 2 < 2 ^ n := by rw [Nat.pow_succ] at hk; omega
    have hd : 2 * d ≤ 63 := by
      have : 2 * d ≤ (k + 2) * d := Nat.mul_le_mul_right _ (by omega)
      omega
    have hss := prd_le hp hs hs
    have sq : cg p (pwz (lz (prd p s s)) ((k + 2) / 2)) (pwz (lz s) (2 * ((k + 2) / 2))) := by
      rw [pwz_two]
      have h := prd_cg (p := p) (f := s) (g := s) hp (by omega)
      have gen : ∀ j, cg p (pwz (lz (prd p s s)) j) (pwz (mz (lz s) (lz s)) j) := by
        intro j
        induction j with
        | zero => exact cg_refl _ _
        | succ j ih => exact cg_mz2 ih h
      exact gen _
    have hle : (k + 2) / 2 * (d + d) ≤ (k + 2) * d := by
      have h1 : (k + 2) / 2 * (d + d) = (2 * ((k + 2) / 2)) * d := by rw [← Nat.two_mul, ← Nat.mul_assoc, Nat.mul_comm ((k + 2) / 2) 2]
      rw [h1]
      exact Nat.mul_le_mul_right _ (by omega)
    by_cases ho : (k + 2) % 2 = 1
    · rw [pgR_odd (by omega) ho]
      have hle2 : (k + 2) / 2 * (d + d) + d ≤ (k + 2) * d := by
        have h1 : (k + 2) / 2 * (d + d) + d = (2 * ((k + 2) / 2) + 1) * d := by rw [← Nat.two_mul, ← Nat.mul_assoc, Nat.mul_comm ((k + 2) / 2) 2, Nat.add_mul, Nat.one_mul]
        rw [h1]
        exact Nat.mul_le_mul_right _ (by omega)
      refine cg_trans (pgR_cg hp n ((k + 2) / 2) (prd p r s) (prd p s s) (t + d) (d + d) hk2 (prd_le hp hr hs) hss (by omega)) ?_
      have e : mz (lz r) (pwz (lz s) (k + 2)) = mz (mz (lz r) (lz s)) (pwz (lz s) (2 * ((k + 2) / 2))) := by
        have : k + 2 = 2 * ((k + 2) / 2) + 1 := by omega
        conv => lhs; rw [this]
        show mz (lz r) (mz (pwz (lz s) (2 * ((k + 2) / 2))) (lz s)) = _
        rw [mz_comm (pwz (lz s) (2 * ((k + 2) / 2))), ← mz_assoc]
      rw [e]
      exact cg_mz2 (prd_cg hp (by have : d ≤ (k + 2) * d := Nat.le_mul_of_pos_left _ (by omega); omega)) sq
    · rw [pgR_even (by omega) ho]
      refine cg_trans (pgR_cg hp n ((k + 2) / 2) r (prd p s s) t (d + d) hk2 hr hss (by omega)) ?_
      have e : k + 2 = 2 * ((k + 2) / 2) := by omega
      conv => rhs; rw [e]
      exact cg_mz2 (cg_refl _ _) sq
theorem pgR_mulT {p : Nat} (hp : 0 < p) (k : Nat) {f : Nat → Nat} (hk : k < 2 ^ 64) (hd : deg f * (k : Int) ≤ 63) : cg p (lz (pgR (prd p) 64 k oneP f)) (pwz (lz f) k) := by
  obtain ⟨d, hd1⟩ : ∃ d : Nat, d = (deg f).toNat := ⟨_, rfl⟩
  have hdf : deg f ≤ (d : Int) := by omega
  have hkd : 0 + k * d ≤ 63 := by
    rcases deg_spec f with ⟨h1, _⟩ | ⟨j, _, h1, _, _⟩
    · have : d = 0 := by rw [hd1, h1]; rfl
      rw [this]; omega
    · have : d = j := by rw [hd1, h1]; rfl
      rw [h1, ← this] at hd
      have : d * k ≤ 63 := by exact_mod_cast hd
      rw [Nat.mul_comm k d]; omega
  have := pgR_cg hp 64 k oneP f 0 d hk (by rw [deg_one]; exact Int.le_refl _) hdf hkd
  rw [one_lz] at this
  have e3 : mz oneS (pwz (lz f) k) = pwz (lz f) k := mz_one _
  rwa [e3] at this
/-- the power by repeated products -/
def exP (p : Nat) (f : Nat → Nat) : Nat → (Nat → Nat)
  | 0 => oneP
  | j + 1 => prd p (exP p f j) f
theorem exP_ok {p d : Nat} {f : Nat → Nat} (hp : 2 ≤ p) (hd : deg f = (d : Int)) : ∀ j, d * j ≤ 63 → (∀ i, i < 64 → exP p f j i < p) ∧ deg (exP p f j) ≤ ((d * j : Nat) : Int) ∧ cg p (lz (exP p f j)) (pwz (lz f) j)
  | 0, _ => ⟨fun i _ => by show oneP i < p; unfold oneP; split <;> omega, by show deg oneP ≤ _; rw [deg_one]; omega, by show cg p (lz oneP) _; rw [one_lz]; exact cg_refl _ _⟩
  | j + 1, h => by
    rw [Nat.mul_succ] at h
    obtain ⟨h1, h2, h3⟩ := exP_ok hp hd j (by omega)
    refine ⟨fun i _ => prd_lt (by omega) i, ?_, ?_⟩
    · rw [Nat.mul_succ]; exact prd_le (by omega) h2 (by omega)
    · exact cg_trans (prd_cg (by omega) (by omega)) (cg_mz h3)
theorem exP_same {p d k : Nat} {f : Nat → Nat} (hp : 2 ≤ p) (hd : deg f = (d : Int)) (hk : d * k ≤ 63) (hk2 : k < 2 ^ 64) : ∀ i, i < 64 → exP p f k i = pgR (prd p) 64 k oneP f i := by
  obtain ⟨h1, _, h3⟩ := exP_ok hp hd k hk
  refine cg_same h1 (pgR_lt (fun x y i _ => prd_lt (by omega) i) 64 k oneP f (fun i _ => by unfold oneP; split <;> omega)) (cg_trans h3 (cg_symm (pgR_mulT (by omega) k hk2 ?_)))
  rw [hd]; exact_mod_cast hk
/-- numbers: powers come again -/
def cpN (p a : Nat) : Nat → Nat
  | 0 => 1
  | j + 1 => cpN p a j * a % p
theorem cpN_mod (p a : Nat) : ∀ j, cpN p a j % p = a ^ j % p
  | 0 => rfl
  | j + 1 => by
    show cpN p a j * a % p % p = _
    rw [Nat.mod_mod, Nat.mul_mod, cpN_mod p a j, ← Nat.mul_mod, Nat.pow_succ]
theorem cpN_lt {p a : Nat} (hp : 2 ≤ p) : ∀ j, cpN p a j < p
  | 0 => by show 1 < p; omega
  | j + 1 => Nat.mod_lt _ (by omega)
theorem fermat {p a : Nat} (hp : p = 2 ∨ p = 3 ∨ p = 5 ∨ p = 7) (h1 : 0 < a) (h2 : a < p) : a ^ (p - 1) % p = 1 := by
  rcases hp with rfl | rfl | rfl | rfl
  · obtain rfl : a = 1 := by omega
    rfl
  · have : a = 1 ∨ a = 2 := by omega
    rcases this with rfl | rfl <;> rfl
  · have : a = 1 ∨ a = 2 ∨ a = 3 ∨ a = 4 := by omega
    rcases this with rfl | rfl | rfl | rfl <;> rfl
  · have : a = 1 ∨ a = 2 ∨ a = 3 ∨ a = 4 ∨ a = 5 ∨ a = 6 := by omega
    rcases this with rfl | rfl | rfl | rfl | rfl | rfl <;> rfl
theorem pow_red {p a k : Nat} (hp : p = 2 ∨ p = 3 ∨ p = 5 ∨ p = 7) (h1 : 0 < a) (h2 : a < p) : a ^ (k % (p - 1)) % p = a ^ k % p := by
  have e := Nat.div_add_mod k (p - 1)
  have h3 : ∀ t, a ^ ((p - 1) * t) % p = 1 := by
    intro t
    rw [Nat.pow_mul, Nat.pow_mod, fermat hp h1 h2, Nat.one_pow]
    exact Nat.mod_eq_of_lt (by omega)
  have e2 : a ^ k % p = a ^ ((p - 1) * (k / (p - 1)) + k % (p - 1)) % p := by rw [e]
  rw [e2, Nat.pow_add, Nat.mul_mod, h3, Nat.one_mul, Nat.mod_mod]
theorem lz_const {f : Nat → Nat} (h : deg f = 0) : lz f = fun k => if k = 0 then (f 0 : Int) else 0 := by
  funext k
  rcases deg_spec f with ⟨h1, _⟩ | ⟨j, _, h1, _, h2⟩
  · omega
  · have : j = 0 := by omega
    subst this
    unfold lz cut
    by_cases hk : k = 0
    · subst hk; rfl
    · rw [if_neg hk]
      split
      · rw [h2 k (by omega) (by assumption)]; rfl
      · rfl
theorem pwz_const (a : Nat) : ∀ k, pwz (fun i => if i = 0 then (a : Int) else 0) k = fun i => if i = 0 then ((a ^ k : Nat) : Int) else 0
  | 0 => by
    funext i
    show oneS i = _
    unfold oneS; rw [Nat.pow_zero]; rfl
  | k + 1 => by
    show mz (pwz _ k) _ = _
    rw [pwz_const a k, mz_comm]
    funext i
    rw [mz_mono (a : Int) 0 _ i, if_pos (Nat.zero_le _), Nat.sub_zero]
    by_cases h : i = 0
    · rw [if_pos h, if_pos h, Nat.pow_succ]; push_cast; rw [Int.mul_comm]
    · rw [if_neg h, if_neg h, Int.mul_zero]
theorem const_same {p k : Nat} {f : Nat → Nat} (hp : p = 2 ∨ p = 3 ∨ p = 5 ∨ p = 7) (hf : ∀ i, i < 64 → f i < p) (hd : deg f = 0) (hk2 : k < 2 ^ 64) : ∀ i, i < 64 → (if i = 0 then cpN p (f 0) (k % (p - 1)) else 0) = pgR (prd p) 64 k oneP f i := by
  have hf0 : 0 < f 0 := by
    rcases deg_spec f with ⟨h1, _⟩ | ⟨j, _, h1, h3, h2⟩
    · omega
    · have : j = 0 := by omega
      subst this; omega
  refine cg_same (f := fun i => if i = 0 then cpN p (f 0) (k % (p - 1)) else 0) (fun i _ => by
    show (if i = 0 then cpN p (f 0) (k % (p - 1)) else 0) < p
    have := cpN_lt (p := p) (a := f 0) (by omega) (k % (p - 1))
    split <;> omega) (pgR_lt (fun x y i _ => prd_lt (by omega) i) 64 k oneP f (fun i _ => by unfold oneP; split <;> omega)) (cg_trans ?_ (cg_symm (pgR_mulT (by omega) k hk2 (by rw [hd]; omega))))
  rw [lz_const hd, pwz_const]
  intro i
  show (p : Int) ∣ ((if i < 64 then (if i = 0 then cpN p (f 0) (k % (p - 1)) else 0) else 0 : Nat) : Int) - (if i = 0 then ((f 0 ^ k : Nat) : Int) else 0)
  by_cases hi : i = 0
  · rw [if_pos (by omega), if_pos hi, if_pos hi]
    have h1 := cpN_mod p (f 0) (k % (p - 1))
    rw [pow_red hp hf0 (hf 0 (by omega))] at h1
    have : ((cpN p (f 0) (k % (p - 1)) : Nat) : Int) % (p : Int) = ((f 0 ^ k : Nat) : Int) % (p : Int) := by exact_mod_cast h1
    exact Int.dvd_of_emod_eq_zero (by rw [Int.sub_emod, this, Int.sub_self, Int.zero_emod])
  · rw [if_neg hi, if_neg hi]
    split <;> exact ⟨0, by simp⟩
theorem zero_same {p k : Nat} {f : Nat → Nat} (hp : 2 ≤ p) (hd : deg f < 0) (hk : 1 ≤ k) (hk2 : k < 2 ^ 64) : ∀ i, i < 64 → (0 : Nat) = pgR (prd p) 64 k oneP f i := by
  refine cg_same (f := fun _ => 0) (fun i _ => by show 0 < p; omega) (pgR_lt (fun x y i _ => prd_lt (by omega) i) 64 k oneP f (fun i _ => by unfold oneP; split <;> omega)) (cg_trans ?_ (cg_symm (pgR_mulT (by omega) k hk2 (by have h1 : deg f * (k : Int) ≤ 0 := Int.mul_nonpos_of_nonpos_of_nonneg (by omega) (by omega); omega))))
  have h0 : lz f = zS := by
    have := lz_congr (deg_neg_iff.1 hd)
    rw [this]; funext i; unfold lz cut zS; simp
  obtain ⟨j, rfl⟩ : ∃ j, k = j + 1 := ⟨k - 1, by omega⟩
  rw [h0]
  show cg p _ (mz _ zS)
  rw [mz_zS]
  intro i; unfold lz cut zS; exact ⟨0, by simp⟩
end Go.Proofs.Ytbjpkmbhbpcbgaa
