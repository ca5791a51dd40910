/-
  Plain mathematics: the greatest common divisor, irreducible polynomials, and what they divide.
-/
import Derived.Test.YtkaaffccklkafaaDq
set_option linter.unusedVariables false
namespace Go.Proofs.Ytkaaffccklkafaa
attribute [local irreducible] deg invN quoP resP
theorem lz_neg {f : Nat → Nat} (hf : deg f < 0) : lz f = zS := by
  funext k; unfold lz zS
  by_cases hk : k < 64
  · rw [cut_in f hk, deg_neg hf k hk]; rfl
  · rw [cut_zero f (by omega)]; rfl
theorem subP_cg {p : Nat} {f g : Nat → Nat} (hg : ∀ k, k < 64 → g k < p) : cg p (lz (subP p f g)) (az (lz f) (cz (-1) (lz g))) := by
  intro k
  show (p : Int) ∣ ((cut (subP p f g) k : Nat) : Int) - (((cut f k : Nat) : Int) + (-1) * ((cut g k : Nat) : Int))
  by_cases hk : k < 64
  · rw [cut_in _ hk, cut_in _ hk, cut_in _ hk]
    unfold subP
    have h1 := mod_dvd p (f k + p - g k)
    have := hg k hk
    have h2 : ((f k + p - g k : Nat) : Int) = (f k : Int) + (p : Int) - (g k : Int) := by omega
    rw [h2] at h1
    obtain ⟨x, hx⟩ := h1
    exact ⟨x + 1, by rw [Int.mul_add]; omega⟩
  · rw [cut_zero _ (by omega), cut_zero _ (by omega), cut_zero _ (by omega)]; exact ⟨0, by simp⟩
theorem sclP_cg {p : Nat} (f : Nat → Nat) (c : Nat) : cg p (lz (sclP p f c)) (cz (c : Int) (lz f)) := by
  intro k
  show (p : Int) ∣ ((cut (sclP p f c) k : Nat) : Int) - (c : Int) * ((cut f k : Nat) : Int)
  by_cases hk : k < 64
  · rw [cut_in _ hk, cut_in _ hk]
    unfold sclP
    have h1 := mod_dvd p (f k * c)
    rwa [Int.natCast_mul, Int.mul_comm (f k : Int)] at h1
  · rw [cut_zero _ (by omega), cut_zero _ (by omega)]; exact ⟨0, by simp⟩
theorem cg_cz {p : Int} {f g : Nat → Int} (c : Int) (h : cg p f g) : cg p (cz c f) (cz c g) := fun k => by
  unfold cz; rw [← Int.mul_sub]; exact Int.dvd_mul_of_dvd_right (h k)
theorem cg_eq {p : Int} {f g : Nat → Int} (h : f = g) : cg p f g := by subst h; exact cg_refl p f
/-- one column of the search -/
theorem lin_next {p : Nat} {a b q r u x v y u2 v2 : Nat → Int} {A B : Nat → Int} (hq : fin q) (hx : fin x) (hy : fin y) (hA : fin A) (hB : fin B)
    (h1 : cg p a (az (mz u A) (mz v B))) (h2 : cg p b (az (mz x A) (mz y B))) (h3 : cg p a (az (mz q b) r)) (h4 : cg p u2 (az u (cz (-1) (mz q x)))) (h5 : cg p v2 (az v (cz (-1) (mz q y)))) :
    cg p r (az (mz u2 A) (mz v2 B)) := by
  have e1 : cg p (mz u2 A) (az (mz u A) (cz (-1) (mz q (mz x A)))) := by
    refine cg_trans (cg_mz h4) (cg_eq ?_)
    rw [mz_az, mz_cz, mz_assoc]
  have e2 : cg p (mz v2 B) (az (mz v B) (cz (-1) (mz q (mz y B)))) := by
    refine cg_trans (cg_mz h5) (cg_eq ?_)
    rw [mz_az, mz_cz, mz_assoc]
  have e3 : cg p (mz q b) (az (mz q (mz x A)) (mz q (mz y B))) := by
    refine cg_trans (cg_mz2 (cg_refl _ q) h2) (cg_eq ?_)
    rw [mz_az2]
  intro k
  have d1 := e1 k; have d2 := e2 k; have d3 := e3 k; have d4 := h1 k; have d5 := h3 k
  unfold az cz at *
  obtain ⟨x1, h1⟩ := d1; obtain ⟨x2, h2⟩ := d2; obtain ⟨x3, h3⟩ := d3; obtain ⟨x4, h4⟩ := d4; obtain ⟨x5, h5⟩ := d5
  refine ⟨x4 - x5 - x3 - x1 - x2, ?_⟩
  rw [Int.mul_sub, Int.mul_sub, Int.mul_sub, Int.mul_sub]
  omega
theorem bz_main {p : Nat} {A B : Nat → Int} (hp : p = 2 ∨ p = 3 ∨ p = 5 ∨ p = 7) (hA : fin A) (hB : fin B) : ∀ (n : Nat) (a b u x v y : Nat → Nat), bzI p a b u x v y → deg b + 1 ≤ (n : Int) →
    cg p (lz a) (az (mz (lz u) A) (mz (lz v) B)) → cg p (lz b) (az (mz (lz x) A) (mz (lz y) B)) →
    (∀ k, k < 64 → (bzRun p n a b u x v y).1 k < p) ∧ 0 ≤ deg (bzRun p n a b u x v y).1 ∧
    cg p (lz (bzRun p n a b u x v y).1) (az (mz (lz (bzRun p n a b u x v y).2.1) A) (mz (lz (bzRun p n a b u x v y).2.2) B)) ∧
    (∀ c, dv p c (lz (bzRun p n a b u x v y).1) ↔ (dv p c (lz a) ∧ dv p c (lz b))) ∧
    (∀ k, k < 64 → (bzRun p n a b u x v y).2.1 k < p) ∧ (∀ k, k < 64 → (bzRun p n a b u x v y).2.2 k < p)
  | n, a, b, u, x, v, y, hI, hn, h1, h2 => by
    have hp0 : 0 < p := by omega
    by_cases hz : deg b < 0
    · rw [bzRun_stop hz]
      obtain ⟨i1, i2, i3, _, i5, _, _, _, _, _, i11⟩ := hI
      refine ⟨i1, (by show 0 ≤ deg a; omega), h1, fun c => ?_, i3, i5⟩
      rw [lz_neg hz]
      exact ⟨fun h => ⟨h, dv_zS c⟩, fun h => h.1⟩
    · cases n with
      | zero => omega
      | succ n =>
        obtain ⟨hI', hdr, hdx, hdy⟩ := bzI_next hp hI hz
        rw [bzRun_go hz]
        obtain ⟨i1, i2, i3, i4, i5, i6, _⟩ := hI
        have hb0 : 0 ≤ deg b := by omega
        have step := lin_next (p := p) (fin_lz _) (fin_lz x) (fin_lz y) hA hB h1 h2 (divP hp i1 i2 hb0)
          (cg_trans (subP_cg (fun k _ => prd_lt hp0 k)) (cg_az (cg_refl _ _) (cg_cz _ (prd_cg hp0 hdx))))
          (cg_trans (subP_cg (fun k _ => prd_lt hp0 k)) (cg_az (cg_refl _ _) (cg_cz _ (prd_cg hp0 hdy))))
        obtain ⟨r1, r2, r3, r4, r5, r6⟩ := bz_main hp hA hB n b (resP p a b) x (subP p u (prd p (quoP p a b) x)) y (subP p v (prd p (quoP p a b) y)) hI' (by push_cast at hn; omega) h2 step
        exact ⟨r1, r2, r3, fun c => (r4 c).trans (dv_ab hp i1 i2 hb0).symm, r5, r6⟩
theorem dv_unit {p : Nat} {m f : Nat → Int} {c v : Int} (hv : (p : Int) ∣ c * v - 1) : dv p m (cz c f) ↔ dv p m f := by
  refine ⟨fun h => ?_, dv_cz c⟩
  have h2 := dv_cz v h
  refine (dv_congr (fun k => ?_)).1 h2
  unfold cz
  obtain ⟨x, hx⟩ := hv
  refine ⟨f k * x, ?_⟩
  have : v * (c * f k) - f k = (c * v - 1) * f k := by rw [Int.sub_mul, Int.one_mul, ← Int.mul_assoc, Int.mul_comm v c]
  rw [this, hx, Int.mul_assoc, Int.mul_comm x]
/-- monic -/
def mon (f : Nat → Nat) (d : Nat) : Prop := deg f = (d : Int) ∧ f d = 1
theorem mon_S {f : Nat → Nat} {d : Nat} (h : mon f d) : monS d (lz f) := by
  obtain ⟨h1, _, _⟩ := deg_top h.1
  refine ⟨?_, fun k hk => lz_above h.1 hk⟩
  unfold lz; rw [cut_in f h1, h.2]; rfl
theorem lz_nn (f : Nat → Nat) (k : Nat) : 0 ≤ lz f k := by unfold lz; omega
/-- the greatest common divisor: a sum of multiples, monic, and divided by all common divisors alone -/
theorem bz_all {p : Nat} {a b : Nat → Nat} (hp : p = 2 ∨ p = 3 ∨ p = 5 ∨ p = 7) (ha : ∀ k, k < 64 → a k < p) (hb : ∀ k, k < 64 → b k < p) (h : 0 ≤ deg a ∨ 0 ≤ deg b) :
    (∀ k, bzD p a b k < p) ∧ (∃ d, mon (bzD p a b) d) ∧ cg p (lz (bzD p a b)) (az (mz (lz (bzU p a b)) (lz a)) (mz (lz (bzW p a b)) (lz b))) ∧ (∀ c, dv p c (lz (bzD p a b)) ↔ (dv p c (lz a) ∧ dv p c (lz b))) := by
  have hp0 : 0 < p := by omega
  have one : lz oneP = oneS := by
    funext k; unfold lz oneS
    by_cases hk : k < 64
    · rw [cut_in _ hk]; unfold oneP; split <;> rfl
    · rw [cut_zero _ (by omega), if_neg (by omega)]; rfl
  have zer : lz (fun _ => 0) = zS := lz_neg (deg_neg_iff.2 (fun _ _ => rfl))
  have e1 : ∀ f, mz oneS f = f := mz_one
  obtain ⟨r1, r2, r3, r4, r5, r6⟩ := bz_main hp (fin_lz a) (fin_lz b) 65 a b oneP (fun _ => 0) (fun _ => 0) oneP (bzI_start (by omega) ha hb h) (by have := deg_bounds b; omega)
    (by rw [one, zer, e1, zS_mz, az_zS]; exact cg_refl _ _) (by rw [one, zer, e1, zS_mz, zS_az]; exact cg_refl _ _)
  have hV : bzV p a b = bzRun p 65 a b oneP (fun _ => 0) (fun _ => 0) oneP := rfl
  rw [← hV] at r1 r2 r3 r4
  obtain ⟨d, hd⟩ : ∃ d : Nat, deg (bzV p a b).1 = (d : Int) := ⟨(deg (bzV p a b).1).toNat, by omega⟩
  obtain ⟨d1, d2, d3⟩ := deg_top hd
  obtain ⟨i1, i2, i3, _⟩ := invF hp d2 (r1 d d1)
  have hc : bzC p a b = invN p ((bzV p a b).1 d) := by unfold bzC; rw [hd]; rfl
  obtain ⟨c, hcc⟩ : ∃ c, c = invN p ((bzV p a b).1 d) := ⟨_, rfl⟩
  rw [← hcc] at hc i1 i2 i3
  have hD : bzD p a b = sclP p (bzV p a b).1 c := by unfold bzD; rw [hc]
  have hU : bzU p a b = sclP p (bzV p a b).2.1 c := by unfold bzU; rw [hc]
  have hW : bzW p a b = sclP p (bzV p a b).2.2 c := by unfold bzW; rw [hc]
  have lead : bzD p a b d = 1 := by rw [hD]; unfold sclP; rw [Nat.mul_comm]; exact i3
  have degD : deg (bzD p a b) = (d : Int) := by
    have h1 := deg_le (f := bzD p a b) (d := (d : Int)) (by omega) (fun k hk hk2 => by rw [hD]; unfold sclP; rw [d3 k (by omega) hk2, Nat.zero_mul, Nat.zero_mod])
    have h2 : ¬ deg (bzD p a b) < (d : Int) := by
      intro h
      have := zero_above h d1
      omega
    omega
  refine ⟨fun k => by rw [hD]; exact Nat.mod_lt _ hp0, ⟨d, degD, lead⟩, ?_, fun c' => ?_⟩
  · rw [hD, hU, hW]
    have s1 := sclP_cg (p := p) (bzV p a b).1 c
    have s2 := cg_mz (g := lz a) (sclP_cg (p := p) (bzV p a b).2.1 c)
    have s3 := cg_mz (g := lz b) (sclP_cg (p := p) (bzV p a b).2.2 c)
    rw [mz_cz] at s2 s3
    refine cg_trans s1 (cg_trans (cg_cz _ r3) (cg_trans (cg_eq ?_) (cg_symm (cg_az s2 s3))))
    funext k; unfold az cz; rw [Int.mul_add]
  · rw [hD]
    refine (dv_congr (sclP_cg (bzV p a b).1 c)).trans ((dv_unit (v := ((bzV p a b).1 d : Int)) ?_).trans (r4 c'))
    have := mod_dvd p (c * (bzV p a b).1 d)
    rw [i3] at this
    obtain ⟨x, hx⟩ := this
    rw [Int.natCast_mul] at hx
    exact ⟨-x, by rw [Int.mul_neg]; omega⟩
/-- a divisor of something other than 0 has no greater degree -/
theorem dv_deg {p : Nat} {f g : Nat → Nat} {d : Nat} (hg : ∀ k, k < 64 → g k < p) (hm : mon f d) (h : dv p (lz f) (lz g)) (h0 : 0 ≤ deg g) : (d : Int) ≤ deg g := by
  by_cases hlt : (d : Int) ≤ deg g
  · exact hlt
  · exfalso
    have hu := rm_unique (d := d) (v := 1) (m := lz f) (f := lz g) (g := zS) (p := p) (by rw [(mon_S hm).1]; exact ⟨0, by omega⟩) (mon_S hm).2 (fun k hk => by
      have : lz g k = 0 := by
        unfold lz
        by_cases hk2 : k < 64
        · rw [cut_in _ hk2, zero_above (f := g) (k := k) (by omega) hk2]; rfl
        · rw [cut_zero _ (by omega)]; rfl
      rw [this]; exact ⟨0, by unfold zS; omega⟩) h
    have : deg g < 0 := deg_neg_iff.2 (fun k hk => by
      have h3 := hu k
      unfold lz zS at h3
      rw [cut_in _ hk] at h3
      have := hg k hk
      have := dvd_small h3 (by omega) (by omega)
      omega)
    omega
/-- no divisor of a degree between -/
def irr (p : Nat) (m : Nat → Nat) (d : Nat) : Prop := 1 ≤ d ∧ mon m d ∧ (∀ k, m k < p) ∧ ∀ (g : Nat → Nat) (j : Nat), (∀ k, g k < p) → mon g j → dv p (lz g) (lz m) → j = 0 ∨ d ≤ j
theorem one_of_mon0 {f : Nat → Nat} (h : mon f 0) : lz f = oneS := by
  funext k; unfold lz oneS
  by_cases hk : k < 64
  · rw [cut_in _ hk]
    by_cases h0 : k = 0
    · subst h0; rw [if_pos rfl, h.2]; rfl
    · rw [if_neg h0, zero_above (f := f) (k := k) (by have := h.1; omega) hk]; rfl
  · rw [cut_zero _ (by omega), if_neg (by omega)]; rfl
theorem irr_euc {p : Nat} {m : Nat → Nat} {d : Nat} (hp : p = 2 ∨ p = 3 ∨ p = 5 ∨ p = 7) (h : irr p m d) : euclS p (lz m) := by
  obtain ⟨hd, hm, hlt, hdiv⟩ := h
  have hp0 : 0 < p := by omega
  obtain ⟨d1, _, _⟩ := deg_top hm.1
  intro a b ha hb hab
  obtain ⟨N, hN⟩ := ha
  obtain ⟨g, g1, g2, g3⟩ := rest_ex (p := p) (by omega) (mon_S hm) N a (fun k hk => hN k (by omega))
  -- the rest as cells
  obtain ⟨r, hr⟩ : ∃ r : Nat → Nat, r = fun k => (g k).toNat := ⟨_, rfl⟩
  have hrp : ∀ k, r k < p := fun k => by rw [hr]; show (g k).toNat < p; have := g1 k; omega
  have hlz : lz r = g := by
    funext k; unfold lz
    by_cases hk : k < 64
    · rw [cut_in _ hk, hr]; have := g1 k; show ((g k).toNat : Int) = g k; omega
    · rw [cut_zero _ (by omega), g2 k (by omega)]; rfl
  by_cases h0 : deg r < 0
  · left
    rw [lz_neg h0] at hlz
    rw [← hlz] at g3
    exact g3
  · right
    obtain ⟨b1, ⟨j, b2⟩, b3, b4⟩ := bz_all (a := m) (b := r) hp (fun k _ => hlt k) (fun k _ => hrp k) (.inr (by omega))
    have hD := (b4 (lz (bzD p m r))).1 (dv_self _)
    have hj0 : j = 0 := by
      rcases hdiv _ j b1 b2 hD.1 with h | h
      · exact h
      · have h2 := dv_deg (fun k _ => hrp k) b2 hD.2 (by omega)
        have h3 : deg r ≤ (d : Int) - 1 := deg_le (by omega) (fun k hk hk2 => by rw [hr]; show (g k).toNat = 0; rw [g2 k (by omega)]; rfl)
        omega
    subst hj0
    rw [one_of_mon0 b2] at b3
    -- b = U m b + W r b
    have e1 : cg p b (az (mz (mz (lz (bzU p m r)) (lz m)) b) (mz (mz (lz (bzW p m r)) (lz r)) b)) := by
      have := cg_mz (g := b) b3
      rw [mz_az] at this
      have e : mz oneS b = b := mz_one b
      rwa [e] at this
    have q1 : dv p (lz m) (mz (mz (lz (bzU p m r)) (lz m)) b) := by
      rw [mz_comm]
      exact dv_mul hb (dv_mul (fin_lz _) (dv_self _))
    have q2 : dv p (lz m) (mz (mz (lz (bzW p m r)) (lz r)) b) := by
      rw [mz_assoc]
      refine dv_mul (fin_lz _) ?_
      rw [hlz]
      exact rm_trans (rm_symm (rm_mz hb g3)) hab
    exact (dv_congr e1).2 (dv_add q1 q2)
/-- an irreducible one divides T^(p^d) - T, and no T^(p^n) - T with a lesser n -/
theorem irr_T {p : Nat} {m : Nat → Nat} {d : Nat} (hp : p = 2 ∨ p = 3 ∨ p = 5 ∨ p = 7) (h : irr p m d) : rm p (lz m) (pwz TS (p ^ d)) TS ∧ ∀ n, 1 ≤ n → rm p (lz m) (pwz TS (p ^ n)) TS → d ≤ n :=
  field_T hp (mon_S h.2.1) (lz_nn m) h.1 (irr_euc hp h)
/-- derivatives -/
def dz (f : Nat → Int) : Nat → Int := fun k => ((k : Int) + 1) * f (k + 1)
theorem dz_mz (f g : Nat → Int) : dz (mz f g) = az (mz (dz f) g) (mz f (dz g)) := by
  funext k
  show ((k : Int) + 1) * cs (k + 1 + 1) (fun i => f i * g (k + 1 - i)) = cs (k + 1) (fun i => ((i : Int) + 1) * f (i + 1) * g (k - i)) + cs (k + 1) (fun i => f i * ((((k - i : Nat) : Int) + 1) * g (k - i + 1)))
  have h1 : ((k : Int) + 1) * cs (k + 1 + 1) (fun i => f i * g (k + 1 - i)) = cs (k + 1 + 1) (fun i => (i : Int) * f i * g (k + 1 - i)) + cs (k + 1 + 1) (fun i => f i * (((k + 1 - i : Nat) : Int) * g (k + 1 - i))) := by
    rw [← cs_mul, ← cs_add]
    refine cs_congr _ (fun i hi => ?_)
    have e : (k : Int) + 1 = (i : Int) + ((k + 1 - i : Nat) : Int) := by omega
    rw [e, Int.add_mul, Int.mul_assoc, Int.mul_left_comm ((k + 1 - i : Nat) : Int)]
  rw [h1, cs_front, cs_s (k + 1) (fun i => f i * (((k + 1 - i : Nat) : Int) * g (k + 1 - i)))]
  have z1 : ((0 : Nat) : Int) * f 0 * g (k + 1 - 0) = 0 := by simp
  have z2 : f (k + 1) * (((k + 1 - (k + 1) : Nat) : Int) * g (k + 1 - (k + 1))) = 0 := by simp
  rw [z1, z2]
  have c1 : cs (k + 1) (fun i => ((i + 1 : Nat) : Int) * f (i + 1) * g (k + 1 - (i + 1))) = cs (k + 1) (fun i => ((i : Int) + 1) * f (i + 1) * g (k - i)) := cs_congr _ (fun i hi => by
    rw [show k + 1 - (i + 1) = k - i by omega]; push_cast; rfl)
  have c2 : cs (k + 1) (fun i => f i * (((k + 1 - i : Nat) : Int) * g (k + 1 - i))) = cs (k + 1) (fun i => f i * ((((k - i : Nat) : Int) + 1) * g (k - i + 1))) := cs_congr _ (fun i hi => by
    rw [show k + 1 - i = k - i + 1 by omega]; push_cast; rfl)
  rw [c1, c2]; omega
theorem dz_cg {p : Int} {f g : Nat → Int} (h : cg p f g) : cg p (dz f) (dz g) := fun k => by
  unfold dz; rw [← Int.mul_sub]; exact Int.dvd_mul_of_dvd_right (h (k + 1))
theorem fin_dz {f : Nat → Int} (h : fin f) : fin (dz f) := by
  obtain ⟨N, h⟩ := h
  exact ⟨N, fun k hk => by unfold dz; rw [h (k + 1) (by omega), Int.mul_zero]⟩
theorem pwz_TS : ∀ n, pwz TS n = fun k => if k = n then 1 else 0
  | 0 => rfl
  | n + 1 => by
    show mz (pwz TS n) TS = _
    rw [mz_comm, mz_TS, pwz_TS n]
    funext k
    cases k with
    | zero => simp
    | succ k => simp
/-- T^(p^n) - T -/
def FS (p n : Nat) : Nat → Int := sz (pwz TS (p ^ n)) TS
theorem fin_FS (p n : Nat) : fin (FS p n) := by
  have := fin_az (fin_pwz fin_TS (p ^ n)) (fin_cz (-1) fin_TS)
  have e : az (pwz TS (p ^ n)) (cz (-1) TS) = FS p n := by funext k; unfold az cz FS sz; omega
  rwa [e] at this
theorem dv_FS {p n : Nat} {m : Nat → Int} : dv p m (FS p n) ↔ rm p m (pwz TS (p ^ n)) TS := by
  unfold dv rm
  constructor <;> rintro ⟨q, hq, hc⟩ <;> refine ⟨q, hq, fun k => ?_⟩ <;> have := hc k <;> unfold FS sz zS at * <;> first | rwa [Int.sub_zero] at this | rwa [Int.sub_zero]
/-- no irreducible one divides it twice -/
theorem square_free {p n d : Nat} {m : Nat → Nat} (hp : p = 2 ∨ p = 3 ∨ p = 5 ∨ p = 7) (hn : 1 ≤ n) (h : irr p m d) : ¬ dv p (mz (lz m) (lz m)) (FS p n) := by
  intro hdv
  obtain ⟨q, hq, hc⟩ := dv_ex.1 hdv
  have h1 := dz_cg hc
  have h2 : cg p (dz (FS p n)) (cz (-1) oneS) := by
    intro k
    unfold dz FS sz cz oneS
    rw [pwz_TS]
    show (p : Int) ∣ ((k : Int) + 1) * ((if k + 1 = p ^ n then 1 else 0) - TS (k + 1)) - -1 * (if k = 0 then 1 else 0)
    have hT : TS (k + 1) = if k = 0 then 1 else 0 := by unfold TS; by_cases h : k = 0 <;> simp [h]
    rw [hT]
    have hpn : p ∣ p ^ n := ⟨p ^ (n - 1), by rw [← Nat.pow_succ', show (n - 1).succ = n by omega]⟩
    obtain ⟨x, hx⟩ := hpn
    by_cases h : k + 1 = p ^ n
    · rw [if_pos h]
      by_cases h0 : k = 0
      · rw [if_pos h0]; subst h0; exact ⟨(x : Int), by
          have : ((0 + 1 : Nat) : Int) = ((p * x : Nat) : Int) := by rw [h, hx]
          rw [Int.natCast_mul] at this
          rw [← this]; simp⟩
      · rw [if_neg h0]; exact ⟨(x : Int), by
          have : ((k + 1 : Nat) : Int) = ((p * x : Nat) : Int) := by rw [h, hx]
          rw [Int.natCast_mul] at this
          push_cast at this
          rw [← this]; simp⟩
    · rw [if_neg h]
      by_cases h0 : k = 0
      · rw [if_pos h0]; subst h0; exact ⟨0, by simp⟩
      · rw [if_neg h0]; exact ⟨0, by simp⟩
  have h3 : dv p (lz m) (dz (mz q (mz (lz m) (lz m)))) := by
    rw [dz_mz]
    refine dv_add (dv_mul (fin_dz hq) (dv_mul (fin_lz _) (dv_self _))) (dv_mul hq ?_)
    rw [dz_mz]
    exact dv_add (dv_mul (fin_dz (fin_lz _)) (dv_self _)) (by rw [mz_comm]; exact dv_mul (fin_dz (fin_lz _)) (dv_self _))
  have h4 : dv p (lz m) (cz (-1) oneS) := (dv_congr (cg_trans (cg_symm h1) h2)).1 h3
  have h5 := dv_cz (-1) h4
  have e : cz (-1) (cz (-1) oneS) = lz oneP := by
    funext k; unfold cz lz oneS
    by_cases hk : k < 64
    · rw [cut_in _ hk]; unfold oneP; split <;> rfl
    · rw [cut_zero _ (by omega), if_neg (by omega)]; rfl
  rw [e] at h5
  have := dv_deg (g := oneP) (fun k _ => by unfold oneP; split <;> omega) h.2.1 h5 (by rw [deg_one]; omega)
  rw [deg_one] at this
  have := h.1
  omega
end Go.Proofs.Ytkaaffccklkafaa
