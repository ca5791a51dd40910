/-
  Plain mathematics: degrees in long division, and the rows of the search for a common divisor.
-/
import Derived.Test.YtbjpkmbhbpcbgaaW12
import Derived.Test.YtbjpkmbhbpcbgaaDv
import Derived.Test.YtbjpkmbhbpcbgaaW13
namespace Go.Proofs.Ytbjpkmbhbpcbgaa
attribute [local irreducible] deg invN
theorem zero_above {f : Nat → Nat} {k : Nat} (h : deg f < (k : Int)) (hk : k < 64) : f k = 0 := by
  rcases deg_spec f with ⟨_, hz⟩ | ⟨d, hd, e, _, hz⟩
  · exact hz k hk
  · exact hz k (by omega) hk
theorem deg_le {f : Nat → Nat} {d : Int} (hd : -1 ≤ d) (h : ∀ k : Nat, d < (k : Int) → k < 64 → f k = 0) : deg f ≤ d := by
  rcases deg_spec f with ⟨e, _⟩ | ⟨n, hn, e, hne, _⟩
  · omega
  · by_cases hlt : d < (n : Int)
    · exact absurd (h n hlt hn) hne
    · omega
theorem deg_congr {f g : Nat → Nat} (h : ∀ k, k < 64 → f k = g k) : deg f = deg g := by
  obtain ⟨a1, a2⟩ := deg_bounds f
  obtain ⟨b1, b2⟩ := deg_bounds g
  have h1 : deg f ≤ deg g := deg_le b1 (fun k hk hk2 => by rw [h k hk2]; exact zero_above hk hk2)
  have h2 : deg g ≤ deg f := deg_le a1 (fun k hk hk2 => by rw [← h k hk2]; exact zero_above hk hk2)
  omega
theorem deg_neg_iff {f : Nat → Nat} : deg f < 0 ↔ ∀ k, k < 64 → f k = 0 := by
  constructor
  · exact deg_neg
  · intro h
    have := deg_le (f := f) (d := -1) (by omega) (fun k _ hk => h k hk)
    omega
theorem step_zero {p inv bm an : Nat} (hp : 0 < p) (han : an < p) (hi : inv * bm % p = 1) : (an + (p - an * inv % p) * bm) % p = 0 := by
  obtain ⟨f, hf⟩ : ∃ f, f = an * inv % p := ⟨_, rfl⟩
  have hfp : f < p := by rw [hf]; exact Nat.mod_lt _ hp
  have h1 : f * bm % p = an := by
    rw [hf, Nat.mod_mul_mod, Nat.mul_assoc, Nat.mul_mod, hi, Nat.mul_one, Nat.mod_mod, Nat.mod_eq_of_lt han]
  rw [← hf]
  have h2 := Nat.div_add_mod (f * bm) p
  rw [h1] at h2
  have h3 : f * bm ≤ p * bm := Nat.mul_le_mul_right _ (by omega)
  rw [Nat.sub_mul]
  have h4 : an + (p * bm - f * bm) = p * (bm - f * bm / p) := by
    rw [Nat.mul_sub]
    omega
  rw [h4, Nat.mul_mod_right]
theorem dS_top {p inv m : Nat} {b a : Nat → Nat} (hp : 0 < p) (ha : ∀ k, k < 128 → a k < p) (hi : inv * b m % p = 1) : ∀ i, i + m ≤ 128 → ∀ k, 128 ≤ k + i → k < 128 → dS p inv m b a i k = 0
  | 0, _, k, h1, h2 => by omega
  | i + 1, him, k, h1, h2 => by
    rw [dS_succ]
    unfold stp
    by_cases h : 127 - i - m ≤ k ∧ k ≤ 127 - i
    · have e : k = 127 - i := by omega
      subst e
      rw [if_pos (by omega), show 127 - i - (127 - i - m) = m by omega]
      exact step_zero hp (dS_lt hp ha i _ (by omega)) hi
    · rw [if_neg h]
      exact dS_top hp ha hi i (by omega) k (by omega) h2
theorem dS_stay {p inv m N : Nat} {b a : Nat → Nat} (ha : ∀ k, k < 128 → a k < p) (hz : ∀ k, N ≤ k → k < 128 → a k = 0) : ∀ i, i + N ≤ 128 → ∀ k, k < 128 → dS p inv m b a i k = a k
  | 0, _, k, _ => rfl
  | i + 1, h, k, hk => by
    have ih := dS_stay (inv := inv) (m := m) (b := b) ha hz i (by omega)
    rw [dS_succ, stp_skip (N := 128) (fun j hj => by rw [ih j hj]; exact ha j hj) (by rw [ih _ (by omega)]; exact hz _ (by omega) (by omega)) hk]
    exact ih k hk
/-- quotient and rest of a by b, other than 0 -/
def quoP (p : Nat) (a b : Nat → Nat) : Nat → Nat := quoW p (invN p (b (deg b).toNat)) (deg b).toNat b (cut a)
def resP (p : Nat) (a b : Nat → Nat) : Nat → Nat := resW p (invN p (b (deg b).toNat)) (deg b).toNat b (cut a)
theorem quoP_at {p m : Nat} {a b : Nat → Nat} (h : deg b = (m : Int)) : quoP p a b = quoW p (invN p (b m)) m b (cut a) := by
  unfold quoP; rw [h]; rfl
theorem resP_at {p m : Nat} {a b : Nat → Nat} (h : deg b = (m : Int)) : resP p a b = resW p (invN p (b m)) m b (cut a) := by
  unfold resP; rw [h]; rfl
theorem cut_all {p : Nat} {a : Nat → Nat} (hp : 0 < p) (ha : ∀ k, k < 64 → a k < p) (k : Nat) : cut a k < p := by
  unfold cut
  split
  · exact ha k (by assumption)
  · exact hp
theorem deg_top {f : Nat → Nat} {m : Nat} (h : deg f = (m : Int)) : m < 64 ∧ 0 < f m ∧ ∀ k, m < k → k < 64 → f k = 0 := by
  rcases deg_spec f with ⟨e, _⟩ | ⟨d, hd, e, hne, hz⟩
  · omega
  · have : d = m := by omega
    subst this
    exact ⟨hd, by omega, hz⟩
theorem quoP_lt {p : Nat} {a b : Nat → Nat} (hp : 0 < p) (k : Nat) : quoP p a b k < p := by
  unfold quoP quoW qS
  split
  · unfold qd; exact Nat.mod_lt _ hp
  · exact hp
theorem resP_lt {p : Nat} {a b : Nat → Nat} (hp : 0 < p) (ha : ∀ k, k < 64 → a k < p) (k : Nat) (hk : k < 64) : resP p a b k < p := by
  unfold resP resW
  exact dS_lt (N := 64) hp (fun k _ => cut_all hp ha k) _ k hk
theorem quoP_deg {p : Nat} {a b : Nat → Nat} (hp : 0 < p) (ha : ∀ k, k < 64 → a k < p) (hb : 0 ≤ deg b) : deg (quoP p a b) = -1 ∨ deg (quoP p a b) ≤ deg a - deg b := by
  obtain ⟨m, hm⟩ : ∃ m : Nat, deg b = (m : Int) := ⟨(deg b).toNat, by omega⟩
  obtain ⟨a1, a2⟩ := deg_bounds a
  obtain ⟨m1, m2, m3⟩ := deg_top hm
  obtain ⟨N, hN⟩ : ∃ N : Nat, deg a + 1 = (N : Int) := ⟨(deg a + 1).toNat, by omega⟩
  have hz : ∀ k, N ≤ k → k < 128 → cut a k = 0 := by
    intro k h1 h2
    by_cases h : k < 64
    · rw [cut_in a h]; exact zero_above (by omega) h
    · exact cut_zero a (by omega)
  have key : ∀ k, N ≤ k + m → quoP p a b k = 0 := by
    intro k hk
    rw [quoP_at hm]
    unfold quoW qS
    split
    · rename_i h
      unfold qd
      rw [dS_stay (N := N) (fun j _ => cut_all hp ha j) hz _ (by omega) _ (by omega), hz _ hk (by omega), Nat.zero_mul, Nat.zero_mod]
    · rfl
  by_cases hlt : N ≤ m
  · left
    have := deg_neg_iff.2 (fun k (_ : k < 64) => key k (by omega))
    obtain ⟨h1, _⟩ := deg_bounds (quoP p a b)
    omega
  · right
    exact deg_le (by omega) (fun k h1 _ => key k (by omega))
theorem resP_deg {p : Nat} {a b : Nat → Nat} (hp : p = 2 ∨ p = 3 ∨ p = 5 ∨ p = 7) (ha : ∀ k, k < 64 → a k < p) (hbp : ∀ k, k < 64 → b k < p) (hb : 0 ≤ deg b) : deg (resP p a b) < deg b ∧ deg (resP p a b) ≤ deg a := by
  have hp0 : 0 < p := by omega
  obtain ⟨m, hm⟩ : ∃ m : Nat, deg b = (m : Int) := ⟨(deg b).toNat, by omega⟩
  obtain ⟨a1, a2⟩ := deg_bounds a
  obtain ⟨m1, m2, m3⟩ := deg_top hm
  have hinv := (invF hp m2 (hbp m m1)).2.2.1
  have h1 : deg (resP p a b) < deg b := by
    have : deg (resP p a b) ≤ deg b - 1 := deg_le (by omega) (fun k hk hk2 => by
      rw [resP_at hm]
      unfold resW
      exact dS_top hp0 (fun j _ => cut_all hp0 ha j) hinv _ (by omega) k (by omega) (by omega))
    omega
  refine ⟨h1, ?_⟩
  by_cases hlt : deg b ≤ deg a
  · omega
  · obtain ⟨N, hN⟩ : ∃ N : Nat, deg a + 1 = (N : Int) := ⟨(deg a + 1).toNat, by omega⟩
    have hz : ∀ k, N ≤ k → k < 128 → cut a k = 0 := by
      intro k h1 h2
      by_cases h : k < 64
      · rw [cut_in a h]; exact zero_above (by omega) h
      · exact cut_zero a (by omega)
    have : deg (resP p a b) = deg a := deg_congr (fun k hk => by
      rw [resP_at hm]
      unfold resW
      rw [dS_stay (N := N) (fun j _ => cut_all hp0 ha j) hz _ (by omega) k (by omega), cut_in a hk])
    omega
/-- below the divisor's degree nothing is divided -/
theorem resP_small {p : Nat} {a b : Nat → Nat} (hp : 0 < p) (ha : ∀ k, k < 64 → a k < p) (hlt : deg a < deg b) (k : Nat) (hk : k < 64) : resP p a b k = a k := by
  obtain ⟨a1, a2⟩ := deg_bounds a
  obtain ⟨b1, b2⟩ := deg_bounds b
  obtain ⟨m, hm⟩ : ∃ m : Nat, deg b = (m : Int) := ⟨(deg b).toNat, by omega⟩
  obtain ⟨N, hN⟩ : ∃ N : Nat, deg a + 1 = (N : Int) := ⟨(deg a + 1).toNat, by omega⟩
  have hz : ∀ k, N ≤ k → k < 128 → cut a k = 0 := by
    intro k h1 h2
    by_cases h : k < 64
    · rw [cut_in a h]; exact zero_above (by omega) h
    · exact cut_zero a (by omega)
  rw [resP_at hm]
  unfold resW
  rw [dS_stay (N := N) (fun j _ => cut_all hp ha j) hz _ (by omega) k (by omega), cut_in a hk]
theorem prd_above {p : Nat} {f g : Nat → Nat} (hp : 0 < p) {k : Nat} (h : deg f + deg g < (k : Int)) : prd p f g k = 0 := by
  unfold prd
  have : ∀ i, cv p (cut f) (cut g) i k = 0 := by
    intro i
    induction i with
    | zero => rfl
    | succ i ih =>
      rw [cv_same hp, ih]
      intro hik
      by_cases h1 : deg f < (i : Int)
      · have : cut f i = 0 := by
          unfold cut
          split
          · exact zero_above h1 (by assumption)
          · rfl
        rw [this, Nat.zero_mul]
      · have : cut g (k - i) = 0 := by
          unfold cut
          split
          · exact zero_above (by omega) (by assumption)
          · rfl
        rw [this, Nat.mul_zero]
  exact this 64
theorem prd_lt {p : Nat} {f g : Nat → Nat} (hp : 0 < p) (k : Nat) : prd p f g k < p := cv_lt p _ _ hp _ _
/-- the difference -/
def subP (p : Nat) (f g : Nat → Nat) : Nat → Nat := fun i => (f i + p - g i) % p
theorem subP_lt {p : Nat} {f g : Nat → Nat} (hp : 0 < p) (k : Nat) : subP p f g k < p := Nat.mod_lt _ hp
theorem subP_zero {p : Nat} {f g : Nat → Nat} {k : Nat} (h1 : f k = 0) (h2 : g k = 0) : subP p f g k = 0 := by
  unfold subP; rw [h1, h2, Nat.zero_add, Nat.sub_zero, Nat.mod_self]
/-- c times f -/
def sclP (p : Nat) (f : Nat → Nat) (c : Nat) : Nat → Nat := fun i => f i * c % p
/-- the search for a common divisor, at most n more rounds -/
def bzRun (p : Nat) : Nat → (Nat → Nat) → (Nat → Nat) → (Nat → Nat) → (Nat → Nat) → (Nat → Nat) → (Nat → Nat) → (Nat → Nat) × (Nat → Nat) × (Nat → Nat)
  | 0, a, _, u, _, v, _ => (a, u, v)
  | n + 1, a, b, u, x, v, y => if deg b < 0 then (a, u, v) else bzRun p n b (resP p a b) x (subP p u (prd p (quoP p a b) x)) y (subP p v (prd p (quoP p a b) y))
theorem bzRun_stop {p n : Nat} {a b u x v y : Nat → Nat} (h : deg b < 0) : bzRun p n a b u x v y = (a, u, v) := by
  cases n with
  | zero => rfl
  | succ n => unfold bzRun; rw [if_pos h]
theorem bzRun_go {p n : Nat} {a b u x v y : Nat → Nat} (h : ¬ deg b < 0) : bzRun p (n + 1) a b u x v y = bzRun p n b (resP p a b) x (subP p u (prd p (quoP p a b) x)) y (subP p v (prd p (quoP p a b) y)) := by
  rw [bzRun, if_neg h]
def oneP : Nat → Nat := fun k => if k = 0 then 1 else 0
theorem deg_one : deg oneP = 0 := by
  have h1 := deg_le (f := oneP) (d := 0) (by omega) (fun k hk _ => by unfold oneP; rw [if_neg (by omega)])
  have h2 : ¬ deg oneP < 0 := by
    intro h
    have := deg_neg h 0 (by omega)
    unfold oneP at this
    simp at this
  omega
/-- what holds of the rows -/
def bzI (p : Nat) (a b u x v y : Nat → Nat) : Prop :=
  (∀ k, k < 64 → a k < p) ∧ (∀ k, k < 64 → b k < p) ∧ (∀ k, k < 64 → u k < p) ∧ (∀ k, k < 64 → x k < p) ∧ (∀ k, k < 64 → v k < p) ∧ (∀ k, k < 64 → y k < p) ∧
  deg x + deg a ≤ 63 ∧ deg u + deg b ≤ 63 ∧ deg y + deg a ≤ 63 ∧ deg v + deg b ≤ 63 ∧ (0 ≤ deg a ∨ 0 ≤ deg b)
theorem bzI_start {p : Nat} {a b : Nat → Nat} (hp : 2 ≤ p) (ha : ∀ k, k < 64 → a k < p) (hb : ∀ k, k < 64 → b k < p) (h : 0 ≤ deg a ∨ 0 ≤ deg b) : bzI p a b oneP (fun _ => 0) (fun _ => 0) oneP := by
  obtain ⟨a1, a2⟩ := deg_bounds a
  obtain ⟨b1, b2⟩ := deg_bounds b
  have h1 : ∀ k, k < 64 → oneP k < p := fun k _ => by unfold oneP; split <;> omega
  have h0 : deg (fun _ => 0) < 0 := deg_neg_iff.2 (fun _ _ => rfl)
  have := deg_one
  exact ⟨ha, hb, h1, fun _ _ => Nat.lt_of_lt_of_le Nat.zero_lt_two hp, fun _ _ => Nat.lt_of_lt_of_le Nat.zero_lt_two hp, h1, by omega, by omega, by omega, by omega, h⟩
theorem bz_col {p : Nat} {a b u x : Nat → Nat} (hp : 0 < p) (ha : ∀ k, k < 64 → a k < p) (hb : 0 ≤ deg b) (h1 : deg x + deg a ≤ 63) (h2 : deg u + deg b ≤ 63) : deg (quoP p a b) + deg x ≤ 63 ∧ deg (subP p u (prd p (quoP p a b) x)) + deg b ≤ 63 := by
  obtain ⟨x1, x2⟩ := deg_bounds x
  obtain ⟨u1, u2⟩ := deg_bounds u
  obtain ⟨b1, b2⟩ := deg_bounds b
  rcases quoP_deg hp ha hb with hq | hq
  · refine ⟨by omega, ?_⟩
    have := deg_le (f := subP p u (prd p (quoP p a b) x)) (d := 63 - deg b) (by omega) (fun k hk hk2 => subP_zero (zero_above (by omega) hk2) (prd_zero_left hp (deg_neg (by omega)) k))
    omega
  · refine ⟨by omega, ?_⟩
    have := deg_le (f := subP p u (prd p (quoP p a b) x)) (d := 63 - deg b) (by omega) (fun k hk hk2 => subP_zero (zero_above (by omega) hk2) (prd_above hp (by omega)))
    omega
theorem bzI_next {p : Nat} {a b u x v y : Nat → Nat} (hp : p = 2 ∨ p = 3 ∨ p = 5 ∨ p = 7) (h : bzI p a b u x v y) (hb : ¬ deg b < 0) :
    bzI p b (resP p a b) x (subP p u (prd p (quoP p a b) x)) y (subP p v (prd p (quoP p a b) y)) ∧ deg (resP p a b) < deg b ∧ deg (quoP p a b) + deg x ≤ 63 ∧ deg (quoP p a b) + deg y ≤ 63 := by
  obtain ⟨h1, h2, h3, h4, h5, h6, h7, h8, h9, h10, h11⟩ := h
  have hp0 : 0 < p := by omega
  obtain ⟨r1, r2⟩ := resP_deg hp h1 h2 (by omega)
  obtain ⟨c1, c2⟩ := bz_col (x := x) (u := u) hp0 h1 (by omega) h7 h8
  obtain ⟨d1, d2⟩ := bz_col (x := y) (u := v) hp0 h1 (by omega) h9 h10
  exact ⟨⟨h2, resP_lt hp0 h1, h4, fun k _ => subP_lt hp0 k, h6, fun k _ => subP_lt hp0 k, c2, by omega, d2, by omega, by omega⟩, r1, c1, d1⟩
def bzV (p : Nat) (a b : Nat → Nat) : (Nat → Nat) × (Nat → Nat) × (Nat → Nat) := bzRun p 65 a b oneP (fun _ => 0) (fun _ => 0) oneP
/-- what is returned: all three, times the inverse of the leading coefficient -/
def bzC (p : Nat) (a b : Nat → Nat) : Nat := invN p ((bzV p a b).1 (deg (bzV p a b).1).toNat)
def bzD (p : Nat) (a b : Nat → Nat) : Nat → Nat := sclP p (bzV p a b).1 (bzC p a b)
def bzU (p : Nat) (a b : Nat → Nat) : Nat → Nat := sclP p (bzV p a b).2.1 (bzC p a b)
def bzW (p : Nat) (a b : Nat → Nat) : Nat → Nat := sclP p (bzV p a b).2.2 (bzC p a b)
theorem addK_scl {p c : Nat} {f : Nat → Nat} : addK p (fun _ => 0) f (c : Int) = sclP p f c := by
  funext i
  unfold addK sclP
  rw [show ((0 : Nat) : Int) + (c : Int) * (f i : Int) = ((f i * c : Nat) : Int) by push_cast; rw [Int.zero_add, Int.mul_comm]]
  omega
theorem cut_stop {a : Nat → Nat} {N : Nat} (hN : deg a + 1 ≤ (N : Int)) : ∀ k, N ≤ k → k < 128 → cut a k = 0 := by
  intro k h1 h2
  by_cases h : k < 64
  · rw [cut_in a h]; exact zero_above (by omega) h
  · exact cut_zero a (by omega)
theorem qS_start {p inv m N s : Nat} {b a : Nat → Nat} (ha : ∀ k, k < 128 → a k < p) (hz : ∀ k, N ≤ k → k < 128 → a k = 0) (hs : N ≤ s) (k : Nat) : qS p inv m b a (128 - s) k = 0 := by
  unfold qS
  split
  · rename_i h
    unfold qd
    rw [dS_stay (N := N) ha hz _ (by omega) _ (by omega), hz _ (by omega) (by omega), Nat.zero_mul, Nat.zero_mod]
  · rfl
theorem stp_none {p inv m : Nat} {b : Nat → Nat} {n : Nat} {a : Nat → Nat} {N : Nat} (ha : ∀ k, k < N → a k < p) (h0 : a n * inv % p = 0) {k : Nat} (hk : k < N) : stp p inv m b n a k = a k := by
  unfold stp
  split
  · rw [h0, Nat.sub_zero, Nat.add_mul_mod_self_left, Nat.mod_eq_of_lt (ha k hk)]
  · rfl
theorem take_off {p A τ b : Nat} (hτ : τ ≤ p) : ((A : Int) - (τ : Int) * (b : Int)) % (p : Int) = (((A + (p - τ) * b) % p : Nat) : Int) := by
  have hc : ((p - τ : Nat) : Int) = (p : Int) - (τ : Int) := by omega
  rw [Int.natCast_emod, Int.natCast_add, Int.natCast_mul, hc, Int.sub_mul]
  rw [show (A : Int) + ((p : Int) * (b : Int) - (τ : Int) * (b : Int)) = (A : Int) - (τ : Int) * (b : Int) + (p : Int) * (b : Int) by omega]
  rw [Int.add_mul_emod_self_left]
end Go.Proofs.Ytbjpkmbhbpcbgaa
