/-
  Plain mathematics: quotient and rest lead back; what divides.
-/
import Derived.Test.YtkaaffccklkafaaQr
set_option linter.unusedVariables false
namespace Go.Proofs.Ytkaaffccklkafaa
attribute [local irreducible] deg invN
/-- cells up to 127 as a series -/
def lw (f : Nat → Nat) : Nat → Int := fun k => if k < 128 then (f k : Int) else 0
theorem fin_lw (f : Nat → Nat) : fin (lw f) := ⟨128, fun k hk => by unfold lw; rw [if_neg (by omega)]⟩
theorem lw_cut (f : Nat → Nat) : lw (cut f) = lz f := by
  funext k; unfold lw lz
  by_cases h : k < 128
  · rw [if_pos h]
  · rw [if_neg h, cut_zero f (by omega)]; rfl
theorem mono_zS : (fun i => if i = 0 then (0 : Int) else 0) = fun _ => 0 := by funext i; split <;> rfl
/-- a polynomial's cells, all of them -/
def ln (f : Nat → Nat) : Nat → Int := fun k => (f k : Int)
theorem lz_above {b : Nat → Nat} {m : Nat} (hb : deg b = (m : Int)) {k : Nat} (hk : m < k) : lz b k = 0 := by
  unfold lz
  by_cases h : k < 64
  · rw [cut_in b h, zero_above (f := b) (k := k) (by omega) h]; rfl
  · rw [cut_zero b (by omega)]; rfl
theorem take_dvd {p A c b : Nat} (hc : c ≤ p) : (p : Int) ∣ (A : Int) - ((c : Int) * (b : Int) + (((A + (p - c) * b) % p : Nat) : Int)) := by
  have h1 := mod_dvd p (A + (p - c) * b)
  have h2 : ((A + (p - c) * b : Nat) : Int) = (A : Int) + (p : Int) * (b : Int) - (c : Int) * (b : Int) := by
    have : ((p - c : Nat) : Int) = (p : Int) - (c : Int) := by omega
    rw [Int.natCast_add, Int.natCast_mul, this, Int.sub_mul]; omega
  rw [h2] at h1
  obtain ⟨x, hx⟩ := h1
  refine ⟨-x - (b : Int), ?_⟩
  rw [Int.mul_sub, Int.mul_neg]
  omega
theorem stp_cg {p inv m n : Nat} {b a : Nat → Nat} (hp : 0 < p) (hb : deg b = (m : Int)) (hmn : m ≤ n) (hn : n < 128) :
    cg p (lw a) (az (mz (fun i => if i = n - m then ((a n * inv % p : Nat) : Int) else 0) (lz b)) (lw (stp p inv m b n a))) := by
  obtain ⟨hm6, _, _⟩ := deg_top hb
  intro k
  obtain ⟨c, hc⟩ : ∃ c, c = a n * inv % p := ⟨_, rfl⟩
  have hcp : c < p := by rw [hc]; exact Nat.mod_lt _ hp
  unfold az
  rw [mz_mono, ← hc]
  unfold lw stp
  by_cases hk : k < 128
  · rw [if_pos hk, if_pos hk]
    by_cases h : n - m ≤ k ∧ k ≤ n
    · rw [if_pos h, if_pos h.1, ← hc]
      have : lz b (k - (n - m)) = (b (k - (n - m)) : Int) := by unfold lz; rw [cut_in b (by omega)]
      rw [this]
      exact take_dvd (by omega)
    · rw [if_neg h]
      by_cases h1 : n - m ≤ k
      · rw [if_pos h1, lz_above hb (by omega)]; exact ⟨0, by omega⟩
      · rw [if_neg h1]; exact ⟨0, by omega⟩
  · rw [if_neg hk, if_neg hk, if_pos (by omega), lz_above hb (by omega)]; exact ⟨0, by omega⟩
theorem qS_fin (p inv m : Nat) (b a : Nat → Nat) (i : Nat) : fin (ln (qS p inv m b a i)) := ⟨128, fun k hk => by unfold ln qS; rw [if_neg (by omega)]; rfl⟩
theorem qS_az {p inv m : Nat} (b a : Nat → Nat) {i : Nat} (hi : i + m ≤ 127) : ln (qS p inv m b a (i + 1)) = az (ln (qS p inv m b a i)) (fun j => if j = 127 - i - m then ((dS p inv m b a i (127 - i) * inv % p : Nat) : Int) else 0) := by
  funext k
  show ((qS p inv m b a (i + 1) k : Nat) : Int) = ((qS p inv m b a i k : Nat) : Int) + (if k = 127 - i - m then ((dS p inv m b a i (127 - i) * inv % p : Nat) : Int) else 0)
  rw [← qS_next b a hi k]
  unfold upd
  by_cases h : k = 127 - i - m
  · rw [if_pos h, if_pos h]
    have : qS p inv m b a i k = 0 := by unfold qS; rw [if_neg (by omega)]
    rw [this]; simp
  · rw [if_neg h, if_neg h]; simp
theorem dS_cg {p inv m : Nat} {b a : Nat → Nat} (hp : 0 < p) (hb : deg b = (m : Int)) : ∀ i, i + m ≤ 128 → cg p (lw a) (az (mz (ln (qS p inv m b a i)) (lz b)) (lw (dS p inv m b a i)))
  | 0, _ => by
    intro k
    unfold az
    have : mz (ln (qS p inv m b a 0)) (lz b) k = 0 := cs_zero _ (fun j _ => by unfold ln; rw [qS_zero]; simp)
    rw [this, dS_zero]; exact ⟨0, by omega⟩
  | i + 1, hi => by
    have ih := dS_cg (inv := inv) (b := b) (a := a) hp hb i (by omega)
    have hs := stp_cg (inv := inv) (a := dS p inv m b a i) hp hb (n := 127 - i) (by omega) (by omega)
    rw [qS_az b a (by omega), mz_az, dS_succ]
    intro k
    have h1 := ih k
    have h2 := hs k
    unfold az at *
    have := Int.dvd_add h1 h2
    rw [show lw a k - (mz (ln (qS p inv m b a i)) (lz b) k + lw (dS p inv m b a i) k) + (lw (dS p inv m b a i) k - (mz (fun j => if j = 127 - i - m then ((dS p inv m b a i (127 - i) * inv % p : Nat) : Int) else 0) (lz b) k + lw (stp p inv m b (127 - i) (dS p inv m b a i)) k)) = lw a k - (mz (ln (qS p inv m b a i)) (lz b) k + mz (fun j => if j = 127 - i - m then ((dS p inv m b a i (127 - i) * inv % p : Nat) : Int) else 0) (lz b) k + lw (stp p inv m b (127 - i) (dS p inv m b a i)) k) by omega] at this
    exact this
/-- long division leads back -/
theorem divW {p inv m : Nat} {b a : Nat → Nat} (hp : 0 < p) (hb : deg b = (m : Int)) : cg p (lw a) (az (mz (ln (quoW p inv m b a)) (lz b)) (lw (resW p inv m b a))) := by
  obtain ⟨hm6, _, _⟩ := deg_top hb
  exact dS_cg hp hb (128 - m) (by omega)
theorem rmW {p inv m : Nat} {b a : Nat → Nat} (hp : 0 < p) (hb : deg b = (m : Int)) : rm p (lz b) (lw a) (lw (resW p inv m b a)) := by
  refine ⟨_, qS_fin p inv m b a (128 - m), fun k => ?_⟩
  have := divW (inv := inv) (a := a) hp hb k
  unfold az at this
  unfold sz
  show (p : Int) ∣ lw a k - lw (resW p inv m b a) k - mz (ln (quoW p inv m b a)) (lz b) k
  rwa [show lw a k - lw (resW p inv m b a) k - mz (ln (quoW p inv m b a)) (lz b) k = lw a k - (mz (ln (quoW p inv m b a)) (lz b) k + lw (resW p inv m b a) k) by omega]
theorem quoP_out {p : Nat} {a b : Nat → Nat} (hp : 0 < p) (ha : ∀ k, k < 64 → a k < p) (hb : 0 ≤ deg b) {k : Nat} (hk : 64 ≤ k) : quoP p a b k = 0 := by
  obtain ⟨m, hm⟩ : ∃ m : Nat, deg b = (m : Int) := ⟨(deg b).toNat, by omega⟩
  rw [quoP_at hm]
  unfold quoW qS
  split
  · rename_i h
    unfold qd
    rw [dS_stay (N := 64) (fun j _ => cut_all hp ha j) (fun j h1 _ => cut_zero a h1) _ (by omega) _ (by omega), cut_zero a (by omega), Nat.zero_mul, Nat.zero_mod]
  · rfl
theorem resP_out {p : Nat} {a b : Nat → Nat} (hp : p = 2 ∨ p = 3 ∨ p = 5 ∨ p = 7) (ha : ∀ k, k < 64 → a k < p) (hbp : ∀ k, k < 64 → b k < p) (hb : 0 ≤ deg b) {k : Nat} (hk : 64 ≤ k) (hk2 : k < 128) : resP p a b k = 0 := by
  have hp0 : 0 < p := by omega
  obtain ⟨m, hm⟩ : ∃ m : Nat, deg b = (m : Int) := ⟨(deg b).toNat, by omega⟩
  obtain ⟨m1, m2, m3⟩ := deg_top hm
  rw [resP_at hm]
  unfold resW
  exact dS_top hp0 (fun j _ => cut_all hp0 ha j) (invF hp m2 (hbp m m1)).2.2.1 _ (by omega) k (by omega) hk2
/-- a is the quotient times b, and the rest -/
theorem divP {p : Nat} {a b : Nat → Nat} (hp : p = 2 ∨ p = 3 ∨ p = 5 ∨ p = 7) (ha : ∀ k, k < 64 → a k < p) (hbp : ∀ k, k < 64 → b k < p) (hb : 0 ≤ deg b) : cg p (lz a) (az (mz (lz (quoP p a b)) (lz b)) (lz (resP p a b))) := by
  have hp0 : 0 < p := by omega
  obtain ⟨m, hm⟩ : ∃ m : Nat, deg b = (m : Int) := ⟨(deg b).toNat, by omega⟩
  have h := divW (inv := invN p (b m)) (a := cut a) hp0 hm
  rw [lw_cut, ← quoP_at hm, ← resP_at hm] at h
  have e1 : ln (quoP p a b) = lz (quoP p a b) := by
    funext k; unfold ln lz
    by_cases hk : k < 64
    · rw [cut_in _ hk]
    · rw [cut_zero _ (by omega), quoP_out hp0 ha hb (by omega)]
  have e2 : lw (resP p a b) = lz (resP p a b) := by
    funext k; unfold lw lz
    by_cases hk : k < 64
    · rw [cut_in _ hk, if_pos (by omega)]
    · rw [cut_zero _ (by omega)]
      by_cases hk2 : k < 128
      · rw [if_pos hk2, resP_out hp ha hbp hb (by omega) hk2]
      · rw [if_neg hk2]; rfl
  rw [e1, e2] at h
  exact h
/-- m divides f -/
def dv (p : Nat) (m f : Nat → Int) : Prop := rm p m f zS
theorem dv_congr {p : Nat} {m f g : Nat → Int} (h : cg p f g) : dv p m f ↔ dv p m g :=
  ⟨fun h1 => rm_trans (rm_symm (rm_of_cg h)) h1, fun h1 => rm_trans (rm_of_cg h) h1⟩
theorem az_zS (f : Nat → Int) : az f zS = f := by rw [az_comm]; exact zS_az f
theorem dv_add {p : Nat} {m f g : Nat → Int} (h1 : dv p m f) (h2 : dv p m g) : dv p m (az f g) := by
  have := rm_az h1 h2
  rwa [zS_az] at this
theorem mz_zS (f : Nat → Int) : mz f zS = zS := by
  funext k; exact cs_zero _ (fun i _ => Int.mul_zero _)
theorem zS_mz (f : Nat → Int) : mz zS f = zS := by rw [mz_comm]; exact mz_zS f
theorem cz_zS (c : Int) : cz c zS = zS := by funext k; exact Int.mul_zero _
theorem dv_mul {p : Nat} {m f g : Nat → Int} (hg : fin g) (h : dv p m f) : dv p m (mz g f) := by
  have := rm_mz hg h
  rw [zS_mz] at this
  unfold dv; rwa [mz_comm]
theorem dv_cz {p : Nat} {m f : Nat → Int} (c : Int) (h : dv p m f) : dv p m (cz c f) := by
  have := rm_cz c h
  rwa [cz_zS] at this
theorem dv_sub {p : Nat} {m f g : Nat → Int} (h1 : dv p m (az f g)) (h2 : dv p m g) : dv p m f := by
  have := dv_add h1 (dv_cz (-1) h2)
  have e : az (az f g) (cz (-1) g) = f := by funext k; unfold az cz; omega
  rwa [e] at this
theorem dv_self {p : Nat} (m : Nat → Int) : dv p m m := by
  have := rm_zero (p := p) (m := m) fin_oneS
  have e : mz oneS m = m := mz_one m
  rw [e] at this; exact this
theorem dv_zS {p : Nat} (m : Nat → Int) : dv p m zS := rm_refl _ _ _
theorem dv_trans {p : Nat} {a b c : Nat → Int} (h1 : dv p a b) (h2 : dv p b c) : dv p a c := by
  obtain ⟨q, hq, hc⟩ := h2
  have h3 : cg p c (mz q b) := fun k => by have := hc k; unfold sz zS at this; rwa [Int.sub_zero] at this
  exact (dv_congr h3).2 (dv_mul hq h1)
theorem dv_ex {p : Nat} {m f : Nat → Int} : dv p m f ↔ ∃ q, fin q ∧ cg p f (mz q m) := by
  constructor
  · rintro ⟨q, hq, hc⟩
    exact ⟨q, hq, fun k => by have := hc k; unfold sz zS at this; rwa [Int.sub_zero] at this⟩
  · rintro ⟨q, hq, hc⟩
    exact ⟨q, hq, fun k => by unfold sz zS; rw [Int.sub_zero]; exact hc k⟩
theorem dv_ab {p : Nat} {a b : Nat → Nat} {c : Nat → Int} (hp : p = 2 ∨ p = 3 ∨ p = 5 ∨ p = 7) (ha : ∀ k, k < 64 → a k < p) (hbp : ∀ k, k < 64 → b k < p) (hb : 0 ≤ deg b) :
    (dv p c (lz a) ∧ dv p c (lz b)) ↔ (dv p c (lz b) ∧ dv p c (lz (resP p a b))) := by
  have h := divP hp ha hbp hb
  constructor
  · rintro ⟨h1, h2⟩
    have h3 := (dv_congr h).1 h1
    rw [az_comm] at h3
    exact ⟨h2, dv_sub h3 (dv_mul (fin_lz _) h2)⟩
  · rintro ⟨h1, h2⟩
    exact ⟨(dv_congr h).2 (dv_add (dv_mul (fin_lz _) h1) h2), h1⟩
/-- a rest 0 is a divisor -/
theorem res_zero_iff {p : Nat} {a b : Nat → Nat} (hp : p = 2 ∨ p = 3 ∨ p = 5 ∨ p = 7) (ha : ∀ k, k < 64 → a k < p) (hbp : ∀ k, k < 64 → b k < p) (hb : 0 ≤ deg b) : deg (resP p a b) < 0 ↔ dv p (lz b) (lz a) := by
  have hp0 : 0 < p := by omega
  have h := divP hp ha hbp hb
  have zer : ∀ f : Nat → Nat, deg f < 0 → lz f = zS := by
    intro f hf
    funext k; unfold lz zS
    by_cases hk : k < 64
    · rw [cut_in f hk, deg_neg hf k hk]; rfl
    · rw [cut_zero f (by omega)]; rfl
  constructor
  · intro h0
    rw [zer _ h0, az_zS] at h
    exact (dv_congr h).2 (dv_mul (fin_lz _) (dv_self _))
  · intro h0
    have h1 := (dv_congr h).1 h0
    rw [az_comm] at h1
    have h2 := dv_sub h1 (dv_mul (fin_lz (quoP p a b)) (dv_self (p := p) (lz b)))
    obtain ⟨m, hm⟩ : ∃ m : Nat, deg b = (m : Int) := ⟨(deg b).toNat, by omega⟩
    obtain ⟨m1, m2, m3⟩ := deg_top hm
    obtain ⟨r1, r2⟩ := resP_deg hp ha hbp hb
    obtain ⟨_, _, i3, _⟩ := invF hp m2 (hbp m m1)
    have hu := rm_unique (d := m) (v := (invN p (b m) : Int)) (m := lz b) (f := lz (resP p a b)) (g := zS) (p := p) (by
      unfold lz; rw [cut_in b m1]
      have := mod_dvd p (invN p (b m) * b m)
      rw [i3] at this
      obtain ⟨x, hx⟩ := this
      rw [Int.natCast_mul, Int.mul_comm] at hx
      exact ⟨-x, by rw [Int.mul_neg]; omega⟩) (fun k hk => lz_above hm hk) (fun k hk => by
      have : lz (resP p a b) k = 0 := by
        unfold lz
        by_cases hk2 : k < 64
        · rw [cut_in _ hk2, zero_above (f := resP p a b) (k := k) (by omega) hk2]; rfl
        · rw [cut_zero _ (by omega)]; rfl
      rw [this]; exact ⟨0, by unfold zS; omega⟩) h2
    have hz : ∀ k, k < 64 → resP p a b k = 0 := by
      intro k hk
      have h3 := hu k
      unfold lz zS at h3
      rw [cut_in _ hk] at h3
      have h4 := resP_lt hp0 ha (b := b) k hk
      have := dvd_small h3 (by omega) (by omega)
      omega
    exact deg_neg_iff.2 hz
end Go.Proofs.Ytkaaffccklkafaa
