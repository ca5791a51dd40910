/-
  Plain mathematics: monic polynomials by their numbers, divisors without rest, how often one divides.
-/
import Derived.Test.YtkaaffccklkafaaBq
set_option linter.unusedVariables false
namespace Go.Proofs.Ytkaaffccklkafaa
attribute [local irreducible] deg invN quoP resP
/-- the number with the digits f below n -/
def vl (p : Nat) (f : Nat → Nat) : Nat → Nat
  | 0 => 0
  | n + 1 => f 0 + p * vl p (fun k => f (k + 1)) n
theorem ofN_z (p N : Nat) : ofN p N 0 = N % p := by unfold ofN dgt; rw [Nat.pow_zero, Nat.div_one]
theorem ofN_s (p N k : Nat) : ofN p N (k + 1) = ofN p (N / p) k := by unfold ofN dgt; rw [Nat.pow_succ', Nat.div_div_eq_div_mul]
theorem ofN_lt {p : Nat} (hp : 0 < p) (N k : Nat) : ofN p N k < p := Nat.mod_lt _ hp
theorem vl_mod {p : Nat} {f : Nat → Nat} (hf : ∀ k, f k < p) (n : Nat) : vl p f (n + 1) % p = f 0 ∧ vl p f (n + 1) / p = vl p (fun k => f (k + 1)) n := by
  have h0 := hf 0
  show (f 0 + p * _) % p = f 0 ∧ (f 0 + p * _) / p = _
  rw [Nat.add_mul_mod_self_left, Nat.mod_eq_of_lt h0, Nat.add_mul_div_left _ _ (by omega), Nat.div_eq_of_lt h0, Nat.zero_add]
  exact ⟨rfl, rfl⟩
theorem ofN_vl {p : Nat} : ∀ n (f : Nat → Nat), (∀ k, f k < p) → ∀ k, k < n → ofN p (vl p f n) k = f k
  | 0, _, _, k, h => by omega
  | n + 1, f, hf, 0, _ => by rw [ofN_z]; exact (vl_mod hf n).1
  | n + 1, f, hf, k + 1, h => by rw [ofN_s, (vl_mod hf n).2]; exact ofN_vl n _ (fun k => hf (k + 1)) k (by omega)
theorem vl_lt {p : Nat} : ∀ n (f : Nat → Nat), (∀ k, f k < p) → vl p f n < p ^ n
  | 0, _, _ => by show 0 < p ^ 0; rw [Nat.pow_zero]; omega
  | n + 1, f, hf => by
    have h1 := vl_lt n _ (fun k => hf (k + 1))
    have h0 := hf 0
    show f 0 + p * vl p (fun k => f (k + 1)) n < p ^ (n + 1)
    rw [Nat.pow_succ']
    have : p * (vl p (fun k => f (k + 1)) n + 1) ≤ p * p ^ n := Nat.mul_le_mul_left p h1
    rw [Nat.mul_add] at this
    omega
theorem vl_ofN {p : Nat} (hp : 0 < p) : ∀ n N, N < p ^ n → vl p (ofN p N) n = N
  | 0, N, h => by rw [Nat.pow_zero] at h; show 0 = N; omega
  | n + 1, N, h => by
    have h1 := vl_ofN hp n (N / p) (by rw [Nat.div_lt_iff_lt_mul hp]; rwa [Nat.pow_succ] at h)
    have e : (fun k => ofN p N (k + 1)) = ofN p (N / p) := by funext k; exact ofN_s p N k
    show ofN p N 0 + p * vl p (fun k => ofN p N (k + 1)) n = N
    rw [e, h1, ofN_z]
    exact Nat.mod_add_div N p
theorem vl_snoc {p : Nat} : ∀ n (f : Nat → Nat), vl p f (n + 1) = vl p f n + f n * p ^ n
  | 0, f => by show f 0 + p * 0 = 0 + f 0 * p ^ 0; rw [Nat.pow_zero]; omega
  | n + 1, f => by
    show f 0 + p * vl p (fun k => f (k + 1)) (n + 1) = f 0 + p * vl p (fun k => f (k + 1)) n + f (n + 1) * p ^ (n + 1)
    rw [vl_snoc n, Nat.mul_add, Nat.pow_succ', Nat.mul_left_comm, Nat.add_assoc]
theorem vl_congr {p : Nat} : ∀ n {f g : Nat → Nat}, (∀ k, k < n → f k = g k) → vl p f n = vl p g n
  | 0, _, _, _ => rfl
  | n + 1, f, g, h => by
    show f 0 + p * vl p (fun k => f (k + 1)) n = g 0 + p * vl p (fun k => g (k + 1)) n
    rw [h 0 (by omega), vl_congr n (fun k hk => h (k + 1) (by omega))]
/-- the numbers of the monic polynomials of the degree n -/
def monL (p n : Nat) : List Nat := List.range' (p ^ n) (p ^ n)
theorem monL_mem {p n N : Nat} : N ∈ monL p n ↔ p ^ n ≤ N ∧ N < 2 * p ^ n := by
  unfold monL; rw [List.mem_range'_1]; omega
theorem ofN_high {p n N k : Nat} (hp : 2 ≤ p) (h : N < 2 * p ^ n) (hk : n < k) : ofN p N k = 0 := by
  unfold ofN dgt
  have h1 : p ^ (n + 1) ≤ p ^ k := Nat.pow_le_pow_right (by omega) hk
  have h2 : 2 * p ^ n ≤ p * p ^ n := Nat.mul_le_mul_right _ hp
  rw [Nat.pow_succ'] at h1
  rw [Nat.div_eq_of_lt (by omega), Nat.zero_mod]
theorem ofN_top {p n N : Nat} (hp : 2 ≤ p) (h1 : p ^ n ≤ N) (h2 : N < 2 * p ^ n) : ofN p N n = 1 := by
  unfold ofN dgt
  have hpos : 0 < p ^ n := Nat.pow_pos (by omega)
  have : N / p ^ n = 1 := by
    have e : N = (N - p ^ n) + p ^ n * 1 := by omega
    rw [e, Nat.add_mul_div_left _ _ hpos, Nat.div_eq_of_lt (by omega)]
  rw [this, Nat.mod_eq_of_lt (by omega)]
theorem mon_ofN {p n N : Nat} (hp : 2 ≤ p) (hn : n < 64) (h : N ∈ monL p n) : mon (ofN p N) n := by
  obtain ⟨h1, h2⟩ := monL_mem.1 h
  have ht := ofN_top hp h1 h2
  refine ⟨?_, ht⟩
  have a := deg_le (f := ofN p N) (d := (n : Int)) (by omega) (fun k hk _ => ofN_high hp h2 (by omega))
  have b : ¬ deg (ofN p N) < (n : Int) := by
    intro hlt
    have := zero_above hlt hn
    omega
  omega
theorem mon_num {p n : Nat} {f : Nat → Nat} (hp : 2 ≤ p) (hf : ∀ k, f k < p) (h : mon f n) : vl p f (n + 1) ∈ monL p n ∧ ∀ k, k < 64 → ofN p (vl p f (n + 1)) k = f k := by
  obtain ⟨n6, _, hz⟩ := deg_top h.1
  have hm : vl p f (n + 1) ∈ monL p n := by
    rw [monL_mem, vl_snoc, h.2]
    have := vl_lt n f hf
    omega
  refine ⟨hm, fun k hk => ?_⟩
  by_cases hkn : k < n + 1
  · exact ofN_vl (n + 1) f hf k hkn
  · rw [ofN_high hp (monL_mem.1 hm).2 (by omega), hz k (by omega) hk]
theorem mon_inj {p n N M : Nat} (hp : 2 ≤ p) (hn : n < 64) (h1 : N ∈ monL p n) (h2 : M ∈ monL p n) (h : ∀ k, k < 64 → ofN p N k = ofN p M k) : N = M := by
  have b : ∀ N, N ∈ monL p n → N < p ^ (n + 1) := by
    intro N hN
    have := (monL_mem.1 hN).2
    have h2 : 2 * p ^ n ≤ p * p ^ n := Nat.mul_le_mul_right _ hp
    rw [Nat.pow_succ']; omega
  have e1 := vl_ofN (p := p) (by omega) (n + 1) N (b N h1)
  have e2 := vl_ofN (p := p) (by omega) (n + 1) M (b M h2)
  rw [← e1, ← e2]
  exact vl_congr _ (fun k hk => h k (by omega))
/-- what is divided without rest -/
theorem mz_above {q m : Nat → Nat} {j d : Nat} (hq : deg q = (j : Int)) (hm : deg m = (d : Int)) {k : Nat} (hk : j + d < k) : mz (lz q) (lz m) k = 0 := by
  refine cs_zero _ (fun i _ => ?_)
  by_cases h : j < i
  · rw [lz_above hq h, Int.zero_mul]
  · rw [lz_above hm (by omega), Int.mul_zero]
theorem quo_exact {p d : Nat} {a m : Nat → Nat} (hp : p = 2 ∨ p = 3 ∨ p = 5 ∨ p = 7) (ha : ∀ k, k < 64 → a k < p) (hmp : ∀ k, k < 64 → m k < p) (hm : mon m d) (h0 : 0 ≤ deg a) (h : dv p (lz m) (lz a)) :
    cg p (lz a) (mz (lz (quoP p a m)) (lz m)) ∧ deg (quoP p a m) + (d : Int) = deg a := by
  have hp0 : 0 < p := by omega
  have hb0 : 0 ≤ deg m := by rw [hm.1]; omega
  have hr := (res_zero_iff hp ha hmp hb0).2 h
  have hd := divP hp ha hmp hb0
  rw [lz_neg hr, az_zS] at hd
  refine ⟨hd, ?_⟩
  obtain ⟨n, hn⟩ : ∃ n : Nat, deg a = (n : Int) := ⟨(deg a).toNat, by omega⟩
  obtain ⟨n1, n2, n3⟩ := deg_top hn
  have htop := hd n
  have e : lz a n = (a n : Int) := by unfold lz; rw [cut_in a n1]
  rw [e] at htop
  have hne : ¬ mz (lz (quoP p a m)) (lz m) n = 0 := by
    intro hz
    rw [hz, Int.sub_zero] at htop
    have := dvd_small htop (by omega) (by have := ha n n1; omega)
    omega
  have hq0 : 0 ≤ deg (quoP p a m) := by
    by_cases hlt : deg (quoP p a m) < 0
    · exfalso
      apply hne
      rw [lz_neg hlt, zS_mz]; rfl
    · omega
  obtain ⟨j, hj⟩ : ∃ j : Nat, deg (quoP p a m) = (j : Int) := ⟨(deg (quoP p a m)).toNat, by omega⟩
  have hle : deg (quoP p a m) ≤ deg a - deg m := by
    rcases quoP_deg hp0 ha hb0 with h | h
    · omega
    · exact h
  have hge : ¬ j + d < n := fun hlt => hne (mz_above hj hm.1 hlt)
  have := hm.1
  omega
theorem dv_lz {p : Nat} {a q m : Nat → Nat} (h : cg p (lz a) (mz (lz q) (lz m))) : dv p (lz q) (lz a) ∧ dv p (lz m) (lz a) := by
  constructor
  · refine (dv_congr h).2 ?_
    rw [mz_comm]
    exact dv_mul (fin_lz _) (dv_self _)
  · exact (dv_congr h).2 (dv_mul (fin_lz _) (dv_self _))
theorem irr_congr {p d : Nat} {f g : Nat → Nat} (h : ∀ k, k < 64 → f k = g k) (hg : ∀ k, g k < p) (hi : irr p f d) : irr p g d := by
  obtain ⟨h1, h2, h3, h4⟩ := hi
  have e : lz f = lz g := by
    funext k; unfold lz
    by_cases hk : k < 64
    · rw [cut_in _ hk, cut_in _ hk, h k hk]
    · rw [cut_zero _ (by omega), cut_zero _ (by omega)]
  obtain ⟨d6, _, _⟩ := deg_top h2.1
  refine ⟨h1, ⟨by rw [← deg_congr h]; exact h2.1, by rw [← h d d6]; exact h2.2⟩, hg, fun x j hx hm hd => h4 x j hx hm (by rw [e]; exact hd)⟩
theorem lz_congr {f g : Nat → Nat} (h : ∀ k, k < 64 → f k = g k) : lz f = lz g := by
  funext k; unfold lz
  by_cases hk : k < 64
  · rw [cut_in _ hk, cut_in _ hk, h k hk]
  · rw [cut_zero _ (by omega), cut_zero _ (by omega)]
/-- monic ones of the same degree that divide are the same -/
theorem mon_same {p d : Nat} {f g : Nat → Nat} (hf : ∀ k, k < 64 → f k < p) (hg : ∀ k, k < 64 → g k < p) (h1 : mon f d) (h2 : mon g d) (h : dv p (lz f) (lz g)) : ∀ k, k < 64 → f k = g k := by
  have hu := rm_unique (d := d) (v := 1) (m := lz f) (f := lz f) (g := lz g) (p := p) (by rw [(mon_S h1).1]; exact ⟨0, by omega⟩) (mon_S h1).2 (fun k hk => by
    by_cases e : k = d
    · subst e; rw [(mon_S h1).1, (mon_S h2).1]; exact ⟨0, by omega⟩
    · rw [(mon_S h1).2 k (by omega), (mon_S h2).2 k (by omega)]; exact ⟨0, by omega⟩) (rm_trans (dv_self (p := p) (lz f)) (rm_symm h))
  exact lz_inj hf hg hu
theorem irr_same {p i j : Nat} {f g : Nat → Nat} (hf : irr p f i) (hg : irr p g j) (h : dv p (lz f) (lz g)) : i = j ∧ ∀ k, k < 64 → f k = g k := by
  obtain ⟨f1, f2, f3, f4⟩ := hf
  obtain ⟨g1, g2, g3, g4⟩ := hg
  have h1 := dv_deg (fun k _ => g3 k) f2 h (by rw [g2.1]; omega)
  rw [g2.1] at h1
  have e : i = j := by
    rcases g4 f i f3 f2 h with h | h <;> omega
  subst e
  exact ⟨rfl, mon_same (fun k _ => f3 k) (fun k _ => g3 k) f2 g2 h⟩
/-- f, made monic -/
theorem made_mon {p d : Nat} {f : Nat → Nat} (hp : p = 2 ∨ p = 3 ∨ p = 5 ∨ p = 7) (hf : ∀ k, k < 64 → f k < p) (hd : deg f = (d : Int)) :
    mon (sclP p f (invN p (f d))) d ∧ (∀ k, sclP p f (invN p (f d)) k < p) ∧ (∀ c, dv p c (lz (sclP p f (invN p (f d)))) ↔ dv p c (lz f)) ∧ (∀ c, dv p (lz (sclP p f (invN p (f d)))) c ↔ dv p (lz f) c) := by
  have hp0 : 0 < p := by omega
  obtain ⟨d1, d2, d3⟩ := deg_top hd
  obtain ⟨i1, i2, i3, _⟩ := invF hp d2 (hf d d1)
  obtain ⟨c, hc⟩ : ∃ c, c = invN p (f d) := ⟨_, rfl⟩
  rw [← hc] at i1 i2 i3 ⊢
  have lead : sclP p f c d = 1 := by unfold sclP; rw [Nat.mul_comm]; exact i3
  have hu : (p : Int) ∣ (c : Int) * (f d : Int) - 1 := by
    have := mod_dvd p (c * f d)
    rw [i3] at this
    obtain ⟨x, hx⟩ := this
    rw [Int.natCast_mul] at hx
    exact ⟨-x, by rw [Int.mul_neg]; omega⟩
  refine ⟨⟨?_, lead⟩, fun k => Nat.mod_lt _ hp0, fun c' => ?_, fun c' => ?_⟩
  · have h1 := deg_le (f := sclP p f c) (d := (d : Int)) (by omega) (fun k hk hk2 => by unfold sclP; rw [d3 k (by omega) hk2, Nat.zero_mul, Nat.zero_mod])
    have h2 : ¬ deg (sclP p f c) < (d : Int) := by
      intro h
      have := zero_above h d1
      omega
    omega
  · exact (dv_congr (sclP_cg f c)).trans (dv_unit hu)
  · constructor
    · intro h
      exact dv_trans ((dv_congr (sclP_cg f c)).2 (dv_cz _ (dv_self _))) h
    · intro h
      have : dv p (lz (sclP p f c)) (lz f) := (dv_unit hu).1 ((dv_congr (sclP_cg f c)).1 (dv_self _))
      exact dv_trans this h
theorem irr_ex {p : Nat} {f : Nat → Nat} (hp : p = 2 ∨ p = 3 ∨ p = 5 ∨ p = 7) (hf : ∀ k, k < 64 → f k < p) (h : 1 ≤ deg f) : ∃ g j, irr p g j ∧ dv p (lz g) (lz f) := by
  obtain ⟨d, hd⟩ : ∃ d : Nat, deg f = (d : Int) := ⟨(deg f).toNat, by omega⟩
  obtain ⟨m1, m2, m3, m4⟩ := made_mon hp hf hd
  have key : ∀ j g, 1 ≤ j → (∀ k, g k < p) → mon g j → dv p (lz g) (lz f) → ∃ g j, irr p g j ∧ dv p (lz g) (lz f) := by
    intro j
    induction j using Nat.strongRecOn with
    | _ j ih =>
      intro g hj hg hm hdv
      by_cases hx : ∃ (h : Nat → Nat) (i : Nat), (∀ k, h k < p) ∧ mon h i ∧ dv p (lz h) (lz g) ∧ i ≠ 0 ∧ i < j
      · obtain ⟨x, i, x1, x2, x3, x4, x5⟩ := hx
        exact ih i x5 x (by omega) x1 x2 (dv_trans x3 hdv)
      · refine ⟨g, j, ⟨hj, hm, hg, fun x i x1 x2 x3 => ?_⟩, hdv⟩
        by_cases h0 : i = 0
        · exact .inl h0
        · by_cases h1 : j ≤ i
          · exact .inr h1
          · exact absurd ⟨x, i, x1, x2, x3, h0, by omega⟩ hx
  exact key d _ (by omega) m2 m1 ((m4 _).2 (dv_self _))
theorem irr_mul {p d : Nat} {m : Nat → Nat} {a b : Nat → Int} (hp : p = 2 ∨ p = 3 ∨ p = 5 ∨ p = 7) (h : irr p m d) (ha : fin a) (hb : fin b) (hab : dv p (lz m) (mz a b)) : dv p (lz m) a ∨ dv p (lz m) b := irr_euc hp h a b ha hb hab
/-- how often m divides a, and what is left -/
def dvo (p : Nat) (m : Nat → Nat) : Nat → (Nat → Nat) → Nat × (Nat → Nat)
  | 0, a => (0, a)
  | f + 1, a => if deg (resP p a m) < 0 then ((dvo p m f (quoP p a m)).1 + 1, (dvo p m f (quoP p a m)).2) else (0, a)
theorem dvo_no {p : Nat} {m a : Nat → Nat} (hp : p = 2 ∨ p = 3 ∨ p = 5 ∨ p = 7) (ha : ∀ k, k < 64 → a k < p) (hmp : ∀ k, k < 64 → m k < p) (hb : 0 ≤ deg m) (h : ¬ dv p (lz m) (lz a)) (f : Nat) : dvo p m f a = (0, a) := by
  cases f with
  | zero => rfl
  | succ f =>
    rw [dvo, if_neg]
    intro h2
    exact h ((res_zero_iff hp ha hmp hb).1 h2)
theorem dvo_spec {p d : Nat} {m : Nat → Nat} (hp : p = 2 ∨ p = 3 ∨ p = 5 ∨ p = 7) (hm : irr p m d) : ∀ (f : Nat) (a : Nat → Nat), (∀ k, k < 64 → a k < p) → 0 ≤ deg a → deg a < (f : Int) →
    (∀ k, k < 64 → (dvo p m f a).2 k < p) ∧ 0 ≤ deg (dvo p m f a).2 ∧ deg (dvo p m f a).2 + ((dvo p m f a).1 * d : Nat) = deg a ∧ ¬ dv p (lz m) (lz (dvo p m f a).2) ∧ dv p (lz (dvo p m f a).2) (lz a) ∧
    (dv p (lz m) (lz a) ↔ 0 < (dvo p m f a).1) ∧ (∀ g j, irr p g j → dv p (lz g) (lz a) → (∀ k, k < 64 → g k = m k) ∨ dv p (lz g) (lz (dvo p m f a).2))
  | 0, a, _, h1, h2 => by omega
  | f + 1, a, ha, h1, h2 => by
    obtain ⟨hd, hmm, hml, _⟩ := hm
    have hm : irr p m d := ⟨hd, hmm, hml, by assumption⟩
    have hb : 0 ≤ deg m := by rw [hmm.1]; omega
    have hp0 : 0 < p := by omega
    by_cases hdv : dv p (lz m) (lz a)
    · have hz := (res_zero_iff hp ha (fun k _ => hml k) hb).2 hdv
      rw [dvo, if_pos hz]
      obtain ⟨q1, q2⟩ := quo_exact hp ha (fun k _ => hml k) hmm h1 hdv
      have hq0 : 0 ≤ deg (quoP p a m) := by have := dv_deg ha hmm hdv h1; omega
      obtain ⟨r1, r2, r3, r4, r5, r6, r7⟩ := dvo_spec hp hm f (quoP p a m) (fun k _ => quoP_lt hp0 k) hq0 (by push_cast at h2; omega)
      refine ⟨r1, r2, ?_, r4, dv_trans r5 (dv_lz q1).1, ⟨fun _ => Nat.succ_pos _, fun _ => hdv⟩, fun g j hg hga => ?_⟩
      · show deg (dvo p m f (quoP p a m)).2 + (((dvo p m f (quoP p a m)).1 + 1) * d : Nat) = deg a
        rw [Nat.succ_mul]; omega
      · have h3 := (dv_congr q1).1 hga
        rcases irr_mul hp hg (fin_lz _) (fin_lz _) h3 with h4 | h4
        · exact r7 g j hg h4
        · exact .inl (irr_same hg hm h4).2
    · rw [dvo_no hp ha (fun k _ => hml k) hb hdv]
      refine ⟨ha, h1, by simp, hdv, dv_self _, ⟨fun h => absurd h hdv, fun h => absurd h (by simp)⟩, fun g j _ h => .inr h⟩
/-- no irreducible divisor of a degree less than n -/
def lowf (p n : Nat) (a : Nat → Nat) : Prop := ∀ g j, irr p g j → dv p (lz g) (lz a) → n ≤ j
theorem lowf_dv {p n : Nat} {a b : Nat → Nat} (h : dv p (lz b) (lz a)) (hl : lowf p n a) : lowf p n b := fun g j hg hgb => hl g j hg (dv_trans hgb h)
theorem mon_div_irr {p n N : Nat} {a : Nat → Nat} (hp : p = 2 ∨ p = 3 ∨ p = 5 ∨ p = 7) (hn : 1 ≤ n) (hn2 : n < 64) (hl : lowf p n a) (hN : N ∈ monL p n) (h : dv p (lz (ofN p N)) (lz a)) : irr p (ofN p N) n := by
  have hm := mon_ofN (by omega) hn2 hN
  have hlt : ∀ k, ofN p N k < p := ofN_lt (by omega) N
  obtain ⟨g, j, hg, hgd⟩ := irr_ex hp (fun k _ => hlt k) (f := ofN p N) (by rw [hm.1]; omega)
  have h1 := hl g j hg (dv_trans hgd h)
  have h2 := dv_deg (fun k _ => hlt k) hg.2.1 hgd (by rw [hm.1]; omega)
  rw [hm.1] at h2
  have e : j = n := by omega
  subst e
  exact irr_congr (mon_same (fun k _ => hg.2.2.1 k) (fun k _ => hlt k) hg.2.1 hm hgd) hlt hg
end Go.Proofs.Ytkaaffccklkafaa
