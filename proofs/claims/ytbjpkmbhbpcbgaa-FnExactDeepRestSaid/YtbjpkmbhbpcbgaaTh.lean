/-
  Plain mathematics: sums, products of power series over the whole numbers, and what is the same modulo p and a polynomial.
-/
import Derived.Test.YtbjpkmbhbpcbgaaBz
namespace Go.Proofs.Ytbjpkmbhbpcbgaa
attribute [local irreducible] deg invN
/-- the sum of t below n -/
def cs : Nat → (Nat → Int) → Int
  | 0, _ => 0
  | n + 1, t => cs n t + t n
theorem cs_z (t : Nat → Int) : cs 0 t = 0 := rfl
theorem cs_s (n : Nat) (t : Nat → Int) : cs (n + 1) t = cs n t + t n := rfl
theorem cs_congr {s t : Nat → Int} : ∀ n, (∀ i, i < n → s i = t i) → cs n s = cs n t
  | 0, _ => rfl
  | n + 1, h => by rw [cs_s, cs_s, cs_congr n (fun i hi => h i (by omega)), h n (by omega)]
theorem cs_add (s t : Nat → Int) : ∀ n, cs n (fun i => s i + t i) = cs n s + cs n t
  | 0 => rfl
  | n + 1 => by rw [cs_s, cs_s, cs_s, cs_add s t n]; omega
theorem cs_mul (c : Int) (t : Nat → Int) : ∀ n, cs n (fun i => c * t i) = c * cs n t
  | 0 => by rw [cs_z, cs_z, Int.mul_zero]
  | n + 1 => by rw [cs_s, cs_s, cs_mul c t n, Int.mul_add]
theorem cs_mulr (c : Int) (t : Nat → Int) (n : Nat) : cs n (fun i => t i * c) = cs n t * c := by
  rw [Int.mul_comm, ← cs_mul]
  exact cs_congr n (fun i _ => Int.mul_comm _ _)
theorem cs_zero {t : Nat → Int} : ∀ n, (∀ i, i < n → t i = 0) → cs n t = 0
  | 0, _ => rfl
  | n + 1, h => by rw [cs_s, cs_zero n (fun i hi => h i (by omega)), h n (by omega)]; rfl
theorem cs_front (t : Nat → Int) : ∀ n, cs (n + 1) t = t 0 + cs n (fun i => t (i + 1))
  | 0 => by rw [cs_s, cs_z, cs_z]; omega
  | n + 1 => by rw [cs_s, cs_front t n, cs_s]; omega
theorem cs_rev (t : Nat → Int) : ∀ n, cs (n + 1) t = cs (n + 1) (fun i => t (n - i))
  | 0 => rfl
  | n + 1 => by
    rw [cs_front (fun i => t (n + 1 - i)) (n + 1), cs_s, cs_rev t n, Nat.sub_zero]
    have : cs (n + 1) (fun i => t (n + 1 - (i + 1))) = cs (n + 1) (fun i => t (n - i)) := cs_congr _ (fun i _ => by rw [show n + 1 - (i + 1) = n - i by omega])
    omega
theorem cs_tri (F : Nat → Nat → Int) : ∀ n, cs (n + 1) (fun i => cs (i + 1) (fun j => F i j)) = cs (n + 1) (fun j => cs (n - j + 1) (fun l => F (j + l) j))
  | 0 => rfl
  | n + 1 => by
    rw [cs_s, cs_tri F n, cs_s (n + 1) (fun j => cs (n + 1 - j + 1) (fun l => F (j + l) j))]
    have h1 : cs (n + 1) (fun j => cs (n + 1 - j + 1) (fun l => F (j + l) j)) = cs (n + 1) (fun j => cs (n - j + 1) (fun l => F (j + l) j) + F (n + 1) j) := cs_congr _ (fun j hj => by
      rw [show n + 1 - j + 1 = (n - j + 1) + 1 by omega, cs_s, show j + (n - j + 1) = n + 1 by omega])
    have h2 : cs (n + 1 - (n + 1) + 1) (fun l => F (n + 1 + l) (n + 1)) = F (n + 1) (n + 1) := by
      rw [Nat.sub_self, cs_s, cs_z]; simp
    rw [h1, cs_add, h2, cs_s (n + 1) (fun j => F (n + 1) j)]
    have h3 : cs (n + 1) (F (n + 1)) = cs (n + 1) (fun j => F (n + 1) j) := rfl
    omega
/-- all but one of the terms are divided by p -/
theorem cs_dvd {p : Int} {t : Nat → Int} : ∀ n, (∀ i, i < n → p ∣ t i) → p ∣ cs n t
  | 0, _ => ⟨0, by rw [cs_z, Int.mul_zero]⟩
  | n + 1, h => by rw [cs_s]; exact Int.dvd_add (cs_dvd n (fun i hi => h i (by omega))) (h n (by omega))
theorem cs_but {p : Int} {t : Nat → Int} {j : Nat} : ∀ n, j < n → (∀ i, i < n → i ≠ j → p ∣ t i) → p ∣ cs n t - t j
  | 0, h, _ => by omega
  | n + 1, hj, h => by
    rw [cs_s]
    by_cases e : j = n
    · subst e
      have := cs_dvd (p := p) j (fun i hi => h i (by omega) (by omega))
      rwa [show cs j t + t j - t j = cs j t by omega]
    · have h1 := cs_but n (by omega) (fun i hi hne => h i (by omega) hne)
      rw [show cs n t + t n - t j = (cs n t - t j) + t n by omega]
      exact Int.dvd_add h1 (h n (by omega) (fun e' => e e'.symm))
/-- the product -/
def mz (f g : Nat → Int) : Nat → Int := fun k => cs (k + 1) (fun i => f i * g (k - i))
theorem mz_comm (f g : Nat → Int) : mz f g = mz g f := by
  funext k
  unfold mz
  rw [cs_rev]
  exact cs_congr _ (fun i hi => by rw [show k - (k - i) = i by omega, Int.mul_comm])
theorem mz_assoc (f g h : Nat → Int) : mz (mz f g) h = mz f (mz g h) := by
  funext k
  unfold mz
  have h1 : cs (k + 1) (fun i => cs (i + 1) (fun j => f j * g (i - j)) * h (k - i)) = cs (k + 1) (fun i => cs (i + 1) (fun j => (fun i j => f j * g (i - j) * h (k - i)) i j)) := cs_congr _ (fun i _ => by
    rw [← cs_mulr])
  rw [h1, cs_tri]
  exact cs_congr _ (fun j hj => by
    rw [← cs_mul]
    exact cs_congr _ (fun l hl => by
      show f j * g (j + l - j) * h (k - (j + l)) = _
      rw [show j + l - j = l by omega, show k - (j + l) = k - j - l by omega, Int.mul_assoc]))
def az (f g : Nat → Int) : Nat → Int := fun k => f k + g k
def sz (f g : Nat → Int) : Nat → Int := fun k => f k - g k
def cz (c : Int) (f : Nat → Int) : Nat → Int := fun k => c * f k
theorem mz_az (f g h : Nat → Int) : mz (az f g) h = az (mz f h) (mz g h) := by
  funext k
  unfold mz az
  rw [← cs_add]
  exact cs_congr _ (fun i _ => Int.add_mul _ _ _)
theorem mz_cz (c : Int) (f h : Nat → Int) : mz (cz c f) h = cz c (mz f h) := by
  funext k
  unfold mz cz
  rw [← cs_mul]
  exact cs_congr _ (fun i _ => Int.mul_assoc _ _ _)
theorem mz_sz (f g h : Nat → Int) : mz (sz f g) h = sz (mz f h) (mz g h) := by
  have : sz f g = az f (cz (-1) g) := by funext k; unfold sz az cz; omega
  rw [this, mz_az, mz_cz]
  funext k; unfold sz az cz; omega
def fin (f : Nat → Int) : Prop := ∃ N, ∀ k, N ≤ k → f k = 0
theorem fin_az {f g : Nat → Int} (hf : fin f) (hg : fin g) : fin (az f g) := by
  obtain ⟨N, h⟩ := hf; obtain ⟨M, h'⟩ := hg
  exact ⟨N + M, fun k hk => by unfold az; rw [h k (by omega), h' k (by omega)]; rfl⟩
theorem fin_cz {f : Nat → Int} (c : Int) (hf : fin f) : fin (cz c f) := by
  obtain ⟨N, h⟩ := hf
  exact ⟨N, fun k hk => by unfold cz; rw [h k hk, Int.mul_zero]⟩
theorem fin_mz {f g : Nat → Int} (hf : fin f) (hg : fin g) : fin (mz f g) := by
  obtain ⟨N, h⟩ := hf; obtain ⟨M, h'⟩ := hg
  exact ⟨N + M, fun k hk => cs_zero _ (fun i hi => by
    by_cases h1 : N ≤ i
    · rw [h i h1, Int.zero_mul]
    · rw [h' (k - i) (by omega), Int.mul_zero])⟩
/-- the same modulo p -/
def cg (p : Int) (f g : Nat → Int) : Prop := ∀ k, p ∣ f k - g k
theorem cg_refl (p : Int) (f : Nat → Int) : cg p f f := fun k => ⟨0, by omega⟩
theorem cg_symm {p : Int} {f g : Nat → Int} (h : cg p f g) : cg p g f := fun k => by
  rw [show g k - f k = -(f k - g k) by omega]; exact Int.dvd_neg.2 (h k)
theorem cg_trans {p : Int} {f g h : Nat → Int} (h1 : cg p f g) (h2 : cg p g h) : cg p f h := fun k => by
  rw [show f k - h k = (f k - g k) + (g k - h k) by omega]; exact Int.dvd_add (h1 k) (h2 k)
theorem cg_az {p : Int} {f g f' g' : Nat → Int} (h1 : cg p f f') (h2 : cg p g g') : cg p (az f g) (az f' g') := fun k => by
  unfold az
  rw [show f k + g k - (f' k + g' k) = (f k - f' k) + (g k - g' k) by omega]; exact Int.dvd_add (h1 k) (h2 k)
theorem cg_mz {p : Int} {f f' g : Nat → Int} (h1 : cg p f f') : cg p (mz f g) (mz f' g) := fun k => by
  have : mz f g k - mz f' g k = mz (sz f f') g k := by rw [mz_sz]; rfl
  rw [this]
  exact cs_dvd _ (fun i _ => by
    obtain ⟨c, hc⟩ := h1 i
    exact ⟨c * g (k - i), by unfold sz; rw [hc, Int.mul_assoc]⟩)
theorem cg_mz2 {p : Int} {f f' g g' : Nat → Int} (h1 : cg p f f') (h2 : cg p g g') : cg p (mz f g) (mz f' g') := by
  refine cg_trans (cg_mz h1) ?_
  rw [mz_comm f' g, mz_comm f' g']
  exact cg_mz h2
/-- the same modulo p and m -/
def rm (p : Int) (m f g : Nat → Int) : Prop := ∃ q, fin q ∧ cg p (sz f g) (mz q m)
theorem rm_of_cg {p : Int} {m f g : Nat → Int} (h : cg p f g) : rm p m f g := by
  refine ⟨fun _ => 0, ⟨0, fun _ _ => rfl⟩, fun k => ?_⟩
  have : mz (fun _ => 0) m k = 0 := cs_zero _ (fun i _ => Int.zero_mul _)
  rw [this, Int.sub_zero]
  exact h k
theorem rm_refl (p : Int) (m f : Nat → Int) : rm p m f f := rm_of_cg (cg_refl p f)
theorem rm_symm {p : Int} {m f g : Nat → Int} (h : rm p m f g) : rm p m g f := by
  obtain ⟨q, hq, hc⟩ := h
  refine ⟨cz (-1) q, fin_cz _ hq, fun k => ?_⟩
  rw [mz_cz]
  have := hc k
  unfold cz sz at *
  rw [show g k - f k - -1 * mz q m k = -(f k - g k - mz q m k) by omega]
  exact Int.dvd_neg.2 this
theorem rm_az {p : Int} {m f g f' g' : Nat → Int} (h1 : rm p m f f') (h2 : rm p m g g') : rm p m (az f g) (az f' g') := by
  obtain ⟨q, hq, hc⟩ := h1; obtain ⟨r, hr, hd⟩ := h2
  refine ⟨az q r, fin_az hq hr, fun k => ?_⟩
  rw [mz_az]
  have h1 := hc k
  have h2 := hd k
  unfold az sz at *
  rw [show f k + g k - (f' k + g' k) - (mz q m k + mz r m k) = (f k - f' k - mz q m k) + (g k - g' k - mz r m k) by omega]
  exact Int.dvd_add h1 h2
theorem rm_trans {p : Int} {m f g h : Nat → Int} (h1 : rm p m f g) (h2 : rm p m g h) : rm p m f h := by
  obtain ⟨q, hq, hc⟩ := h1; obtain ⟨r, hr, hd⟩ := h2
  refine ⟨az q r, fin_az hq hr, fun k => ?_⟩
  rw [mz_az]
  have h1 := hc k
  have h2 := hd k
  unfold az sz at *
  rw [show f k - h k - (mz q m k + mz r m k) = (f k - g k - mz q m k) + (g k - h k - mz r m k) by omega]
  exact Int.dvd_add h1 h2
theorem rm_mz {p : Int} {m f f' g : Nat → Int} (hg : fin g) (h : rm p m f f') : rm p m (mz f g) (mz f' g) := by
  obtain ⟨q, hq, hc⟩ := h
  refine ⟨mz q g, fin_mz hq hg, ?_⟩
  rw [← mz_sz, mz_assoc, mz_comm g m, ← mz_assoc]
  exact cg_mz hc
theorem rm_mz2 {p : Int} {m f f' g g' : Nat → Int} (hg : fin g) (hf : fin f') (h1 : rm p m f f') (h2 : rm p m g g') : rm p m (mz f g) (mz f' g') := by
  refine rm_trans (rm_mz hg h1) ?_
  rw [mz_comm f' g, mz_comm f' g']
  exact rm_mz hf h2
theorem rm_zero {p : Int} {m q : Nat → Int} (hq : fin q) : rm p m (mz q m) (fun _ => 0) :=
  ⟨q, hq, fun k => ⟨0, by show mz q m k - 0 - mz q m k = p * 0; omega⟩⟩
theorem dvd_unit {p x y v : Int} (hv : p ∣ y * v - 1) (h : p ∣ x * y) : p ∣ x := by
  obtain ⟨a, ha⟩ := hv
  obtain ⟨b, hb⟩ := h
  refine ⟨b * v - x * a, ?_⟩
  have h1 : x * (y * v - 1) = x * (p * a) := by rw [ha]
  rw [Int.mul_sub, ← Int.mul_assoc, hb, Int.mul_one] at h1
  have h2 : p * b * v = p * (b * v) := Int.mul_assoc _ _ _
  have h3 : x * (p * a) = p * (x * a) := by rw [← Int.mul_assoc, Int.mul_comm x p, Int.mul_assoc]
  rw [Int.mul_sub]
  omega
/-- a rest of a lesser degree is the only one -/
theorem rm_unique {p : Int} {m f g : Nat → Int} {d : Nat} {v : Int} (hv : p ∣ m d * v - 1) (hm : ∀ k, d < k → m k = 0) (hd : ∀ k, d ≤ k → p ∣ f k - g k) (h : rm p m f g) : cg p f g := by
  obtain ⟨q, ⟨N, hN⟩, hc⟩ := h
  have key : ∀ i n, n + i = N → ∀ k, n ≤ k → p ∣ q k := by
    intro i
    induction i with
    | zero => intro n hn k hk; rw [hN k (by omega)]; exact ⟨0, by omega⟩
    | succ i ih =>
      intro n hn k hk
      have ih' := ih (n + 1) (by omega)
      by_cases e : k = n
      · subst e
        have h1 := hc (k + d)
        have h2 := hd (k + d) (by omega)
        have h3 : p ∣ mz q m (k + d) - q k * m (k + d - k) := cs_but (t := fun i => q i * m (k + d - i)) _ (by omega) (fun i hi hne => by
          by_cases hlt : i < k
          · rw [hm (k + d - i) (by omega), Int.mul_zero]; exact ⟨0, by omega⟩
          · obtain ⟨c, hc'⟩ := ih' i (by omega)
            exact ⟨c * m (k + d - i), by rw [hc', Int.mul_assoc]⟩)
        rw [show k + d - k = d by omega] at h3
        have h4 : p ∣ q k * m d := by
          unfold sz at h1
          have := Int.dvd_sub (Int.dvd_sub h2 h1) h3
          rwa [show f (k + d) - g (k + d) - (f (k + d) - g (k + d) - mz q m (k + d)) - (mz q m (k + d) - q k * m d) = q k * m d by omega] at this
        exact dvd_unit hv h4
      · exact ih' k (by omega)
  intro k
  have h1 := hc k
  have h2 : p ∣ mz q m k := cs_dvd _ (fun i _ => by
    obtain ⟨c, hc'⟩ := key N 0 (by omega) i (by omega)
    exact ⟨c * m (k - i), by rw [hc', Int.mul_assoc]⟩)
  have := Int.dvd_add h1 h2
  unfold sz at this
  rwa [show f k - g k - mz q m k + mz q m k = f k - g k by omega] at this
/-- powers -/
def pwz (f : Nat → Int) : Nat → (Nat → Int)
  | 0 => fun k => if k = 0 then 1 else 0
  | n + 1 => mz (pwz f n) f
theorem mz_one (f : Nat → Int) : mz (fun k => if k = 0 then 1 else 0) f = f := by
  funext k
  unfold mz
  rw [cs_front, cs_zero k (fun i hi => by show (if i + 1 = 0 then (1 : Int) else 0) * _ = 0; rw [if_neg (by omega), Int.zero_mul])]
  simp
theorem fin_one : fin (fun k => if k = 0 then 1 else 0) := ⟨1, fun k hk => by show (if k = 0 then (1 : Int) else 0) = 0; rw [if_neg (by omega)]⟩
theorem fin_pwz {f : Nat → Int} (hf : fin f) : ∀ n, fin (pwz f n)
  | 0 => fin_one
  | n + 1 => fin_mz (fin_pwz hf n) hf
theorem pwz_add (f : Nat → Int) (a : Nat) : ∀ b, pwz f (a + b) = mz (pwz f a) (pwz f b)
  | 0 => by rw [Nat.add_zero, mz_comm]; exact (mz_one _).symm
  | b + 1 => by
    rw [← Nat.add_assoc]
    show mz (pwz f (a + b)) f = mz (pwz f a) (mz (pwz f b) f)
    rw [pwz_add f a b, mz_assoc]
theorem pwz_two (f : Nat → Int) : ∀ n, pwz f (2 * n) = pwz (mz f f) n
  | 0 => rfl
  | n + 1 => by
    rw [show 2 * (n + 1) = 2 * n + 1 + 1 by omega]
    show mz (mz (pwz f (2 * n)) f) f = mz (pwz (mz f f) n) (mz f f)
    rw [mz_assoc, pwz_two f n]
theorem rm_pwz {p : Int} {m f f' : Nat → Int} (hf : fin f) (hf' : fin f') (h : rm p m f f') : ∀ n, rm p m (pwz f n) (pwz f' n)
  | 0 => rm_refl _ _ _
  | n + 1 => rm_mz2 hf (fin_pwz hf' n) (rm_pwz hf hf' h n) h
/-- a polynomial's cells as a series -/
def lz (f : Nat → Nat) : Nat → Int := fun k => (cut f k : Int)
theorem fin_lz (f : Nat → Nat) : fin (lz f) := ⟨64, fun k hk => by unfold lz; rw [cut_zero f hk]; rfl⟩
theorem mod_dvd (p : Nat) (x : Nat) : (p : Int) ∣ ((x % p : Nat) : Int) - (x : Int) := by
  have := Nat.div_add_mod x p
  refine ⟨-((x / p : Nat) : Int), ?_⟩
  rw [Int.mul_neg, ← Int.natCast_mul]
  omega
theorem cv_mz (p : Nat) (f g : Nat → Nat) (k : Nat) : ∀ i, (p : Int) ∣ (cv p f g i k : Int) - cs i (fun j => if j ≤ k then (f j : Int) * (g (k - j) : Int) else 0)
  | 0 => ⟨0, by rw [cv_zero, cs_z]; omega⟩
  | i + 1 => by
    rw [cv_succ, cs_s]
    have h1 := mod_dvd p (cv p f g i k + (if i ≤ k then f i * g (k - i) else 0))
    have h2 := cv_mz p f g k i
    have h3 : (((if i ≤ k then f i * g (k - i) else 0 : Nat)) : Int) = (if i ≤ k then (f i : Int) * (g (k - i) : Int) else 0) := by split <;> push_cast <;> rfl
    have := Int.dvd_add h1 h2
    rw [Int.natCast_add, h3] at this
    obtain ⟨c, hc⟩ := this
    exact ⟨c, by omega⟩
theorem cs_more {t : Nat → Int} (n : Nat) : ∀ d, (∀ i, n ≤ i → i < n + d → t i = 0) → cs (n + d) t = cs n t
  | 0, _ => rfl
  | d + 1, h => by
    rw [← Nat.add_assoc, cs_s, cs_more n d (fun i h1 h2 => h i h1 (by omega)), h (n + d) (by omega) (by omega)]
    omega
/-- the coefficients of the product, modulo p -/
theorem prd_mz (p : Nat) (f g : Nat → Nat) (k : Nat) : (p : Int) ∣ (prd p f g k : Int) - mz (lz f) (lz g) k := by
  have h := cv_mz p (cut f) (cut g) k 64
  have e : cs 64 (fun j => if j ≤ k then (cut f j : Int) * (cut g (k - j) : Int) else 0) = mz (lz f) (lz g) k := by
    unfold mz lz
    by_cases hk : k + 1 ≤ 64
    · have := cs_more (t := fun j => if j ≤ k then (cut f j : Int) * (cut g (k - j) : Int) else 0) (k + 1) (64 - (k + 1)) (fun i h1 _ => by rw [if_neg (by omega)])
      rw [show k + 1 + (64 - (k + 1)) = 64 by omega] at this
      rw [this]
      exact cs_congr _ (fun i hi => by rw [if_pos (by omega)])
    · have := cs_more (t := fun j => (cut f j : Int) * (cut g (k - j) : Int)) 64 (k + 1 - 64) (fun i h1 _ => by rw [cut_zero f h1]; simp)
      rw [show 64 + (k + 1 - 64) = k + 1 by omega] at this
      rw [this]
      exact cs_congr _ (fun i hi => by rw [if_pos (by omega)])
  rw [e] at h
  exact h
theorem prd_cg {p : Nat} {f g : Nat → Nat} (hp : 0 < p) (h : deg f + deg g ≤ 63) : cg p (lz (prd p f g)) (mz (lz f) (lz g)) := by
  intro k
  by_cases hk : k < 64
  · have := prd_mz p f g k
    unfold lz at this ⊢
    rwa [cut_in _ hk]
  · have h0 := prd_above hp (f := f) (g := g) (k := k) (by omega)
    have := prd_mz p f g k
    unfold lz at this ⊢
    rw [cut_zero _ (by omega)]
    rwa [h0] at this
/-- two series of cells below p that are the same modulo p are the same -/
theorem lz_inj {p : Nat} {f g : Nat → Nat} (hf : ∀ k, k < 64 → f k < p) (hg : ∀ k, k < 64 → g k < p) (h : cg p (lz f) (lz g)) : ∀ k, k < 64 → f k = g k := by
  intro k hk
  have h1 := h k
  unfold lz at h1
  rw [cut_in _ hk, cut_in _ hk] at h1
  have h2 := hf k hk
  have h3 := hg k hk
  obtain ⟨c, hc⟩ := h1
  have : c = 0 := by
    have hp : (0 : Int) < p := by omega
    by_cases h4 : c = 0
    · exact h4
    · exfalso
      by_cases h5 : 0 < c
      · have : (p : Int) * 1 ≤ p * c := Int.mul_le_mul_of_nonneg_left (by omega) (by omega)
        omega
      · have : (p : Int) * c ≤ p * (-1) := Int.mul_le_mul_of_nonneg_left (by omega) (by omega)
        omega
  subst this
  omega
end Go.Proofs.Ytbjpkmbhbpcbgaa
