/-
  Plain mathematics: residues modulo p and a monic polynomial are a field of p^d elements; T to the power p^d is T.
-/
import Derived.Test.YtkaaffccklkafaaTh
import Derived.Test.YtkaaffccklkafaaFf
namespace Go.Proofs.Ytkaaffccklkafaa
open Rg
def zS : Nat → Int := fun _ => 0
def oneS : Nat → Int := fun k => if k = 0 then 1 else 0
def TS : Nat → Int := fun k => if k = 1 then 1 else 0
theorem fin_zS : fin zS := ⟨0, fun _ _ => rfl⟩
theorem fin_TS : fin TS := ⟨2, fun k hk => by unfold TS; rw [if_neg (by omega)]⟩
theorem fin_oneS : fin oneS := fin_one
theorem az_comm (f g : Nat → Int) : az f g = az g f := by funext k; unfold az; omega
theorem az_assoc (f g h : Nat → Int) : az (az f g) h = az f (az g h) := by funext k; unfold az; omega
theorem zS_az (f : Nat → Int) : az zS f = f := by funext k; unfold az zS; omega
theorem neg_az (f : Nat → Int) : az (cz (-1) f) f = zS := by funext k; unfold az zS cz; omega
theorem mz_az2 (f g h : Nat → Int) : mz f (az g h) = az (mz f g) (mz f h) := by
  rw [mz_comm, mz_az, mz_comm g, mz_comm h]
theorem rm_cz {p : Int} {m f f' : Nat → Int} (c : Int) (h : rm p m f f') : rm p m (cz c f) (cz c f') := by
  obtain ⟨q, hq, hc⟩ := h
  refine ⟨cz c q, fin_cz c hq, fun k => ?_⟩
  rw [mz_cz]
  obtain ⟨x, hx⟩ := hc k
  unfold cz sz at *
  refine ⟨c * x, ?_⟩
  have : c * (f k - f' k - mz q m k) = c * (p * x) := by rw [hx]
  rw [Int.mul_sub, Int.mul_sub] at this
  rw [this, Int.mul_left_comm]
/-- residues modulo p and m -/
def Res (p : Int) (m : Nat → Int) : Type := Quot (fun f g : { f : Nat → Int // fin f } => rm p m f.1 g.1)
section
variable {p : Int} {m : Nat → Int}
def cl (f : Nat → Int) (hf : fin f) : Res p m := Quot.mk _ ⟨f, hf⟩
theorem cl_eq {f g : Nat → Int} {hf : fin f} {hg : fin g} : (cl f hf : Res p m) = cl g hg ↔ rm p m f g := by
  constructor
  · intro h
    have key : ∀ x y : { f : Nat → Int // fin f }, (Quot.mk (fun f g : { f : Nat → Int // fin f } => rm p m f.1 g.1) x) = Quot.mk _ y → rm p m x.1 y.1 := by
      intro x y hxy
      have h1 := congrArg (Quot.lift (fun z : { f : Nat → Int // fin f } => rm p m x.1 z.1) (by
        intro a b hab
        exact propext ⟨fun h => rm_trans h hab, fun h => rm_trans h (rm_symm hab)⟩)) hxy
      have h2 : rm p m x.1 x.1 = rm p m x.1 y.1 := h1
      rw [← h2]; exact rm_refl _ _ _
    exact key _ _ h
  · intro h; exact Quot.sound h
def rAdd (x y : Res p m) : Res p m := Quot.lift (fun f => Quot.lift (fun g => cl (az f.1 g.1) (fin_az f.2 g.2)) (by
    intro a b h; exact cl_eq.2 (rm_az (rm_refl _ _ _) h)) y) (by
  intro a b h
  induction y using Quot.ind with
  | mk g => exact cl_eq.2 (rm_az h (rm_refl _ _ _))) x
def rMul (x y : Res p m) : Res p m := Quot.lift (fun f => Quot.lift (fun g => cl (mz f.1 g.1) (fin_mz f.2 g.2)) (by
    intro a b h; exact cl_eq.2 (rm_mz2 a.2 f.2 (rm_refl _ _ _) h)) y) (by
  intro a b h
  induction y using Quot.ind with
  | mk g => exact cl_eq.2 (rm_mz g.2 h)) x
def rNeg (x : Res p m) : Res p m := Quot.lift (fun f => cl (cz (-1) f.1) (fin_cz _ f.2)) (by
  intro a b h; exact cl_eq.2 (rm_cz _ h)) x
theorem rAdd_cl {f g : Nat → Int} {hf : fin f} {hg : fin g} : rAdd (cl f hf : Res p m) (cl g hg) = cl (az f g) (fin_az hf hg) := rfl
theorem rMul_cl {f g : Nat → Int} {hf : fin f} {hg : fin g} : rMul (cl f hf : Res p m) (cl g hg) = cl (mz f g) (fin_mz hf hg) := rfl
theorem cl_congr {f g : Nat → Int} {hf : fin f} {hg : fin g} (h : f = g) : (cl f hf : Res p m) = cl g hg := by subst h; rfl
theorem res_ind {P : Res p m → Prop} (h : ∀ f hf, P (cl f hf)) (x : Res p m) : P x := by
  induction x using Quot.ind with
  | mk f => exact h f.1 f.2
instance resRg : Rg (Res p m) where
  add := rAdd
  mul := rMul
  neg := rNeg
  o := cl zS fin_zS
  e := cl oneS fin_oneS
  acomm a b := by
    induction a using res_ind with | h f hf => induction b using res_ind with | h g hg => exact cl_congr (az_comm f g)
  aassoc a b c := by
    induction a using res_ind with | h f hf => induction b using res_ind with | h g hg => induction c using res_ind with | h h hh => exact cl_congr (az_assoc f g h)
  oadd a := by induction a using res_ind with | h f hf => exact cl_congr (zS_az f)
  nadd a := by induction a using res_ind with | h f hf => exact cl_congr (neg_az f)
  mcomm a b := by
    induction a using res_ind with | h f hf => induction b using res_ind with | h g hg => exact cl_congr (mz_comm f g)
  massoc a b c := by
    induction a using res_ind with | h f hf => induction b using res_ind with | h g hg => induction c using res_ind with | h h hh => exact cl_congr (mz_assoc f g h)
  emul a := by induction a using res_ind with | h f hf => exact cl_congr (mz_one f)
  madd a b c := by
    induction a using res_ind with | h f hf => induction b using res_ind with | h g hg => induction c using res_ind with | h h hh => exact cl_congr (mz_az2 f g h)
def tt : Res p m := cl TS fin_TS
theorem pw_cl {f : Nat → Int} (hf : fin f) : ∀ n, pw (cl f hf : Res p m) n = cl (pwz f n) (fin_pwz hf n)
  | 0 => rfl
  | n + 1 => by
    show rMul (cl f hf) (pw (cl f hf) n) = _
    rw [pw_cl hf n, rMul_cl]
    exact cl_congr (mz_comm _ _)
theorem fin_c (c : Nat) : fin (fun k => if k = 0 then (c : Int) else 0) := ⟨1, fun k hk => by show (if k = 0 then (c : Int) else 0) = 0; rw [if_neg (by omega)]⟩
theorem nm_cl : ∀ c : Nat, (nm c Rg.e : Res p m) = cl (fun k => if k = 0 then (c : Int) else 0) (fin_c c)
  | 0 => cl_congr (by funext k; unfold zS; split <;> rfl)
  | c + 1 => by
    show rAdd (nm c Rg.e) (cl oneS fin_oneS) = _
    rw [nm_cl c, rAdd_cl]
    exact cl_congr (by funext k; unfold az oneS; by_cases h : k = 0 <;> simp [h])
theorem mz_TS (f : Nat → Int) : mz TS f = fun k => if k = 0 then 0 else f (k - 1) := by
  funext k
  unfold mz
  cases k with
  | zero => rw [cs_s, cs_z]; simp [TS]
  | succ k =>
    rw [cs_front, cs_front, cs_zero k (fun i hi => by unfold TS; rw [if_neg (by omega), Int.zero_mul])]
    simp [TS]
def ser (cs : List Nat) : Nat → Int := fun k => ((cs.getD k 0 : Nat) : Int)
theorem fin_ser (cs : List Nat) : fin (ser cs) := ⟨cs.length, fun k hk => by unfold ser; simp [hk]⟩
theorem pe_cl : ∀ cs : List Nat, (pe cs tt : Res p m) = cl (ser cs) (fin_ser cs)
  | [] => cl_congr (by funext k; unfold zS ser; simp)
  | c :: cs => by
    show rAdd (nm c Rg.e) (rMul (cl TS fin_TS) (pe cs tt)) = _
    rw [pe_cl cs, nm_cl, rMul_cl, rAdd_cl]
    refine cl_congr ?_
    rw [mz_TS]
    funext k
    unfold az ser
    cases k with
    | zero => simp
    | succ k => simp
/-- m is monic of the degree d -/
def monS (d : Nat) (m : Nat → Int) : Prop := m d = 1 ∧ ∀ k, d < k → m k = 0
theorem mz_mono (c : Int) (j : Nat) (m : Nat → Int) (k : Nat) : mz (fun i => if i = j then c else 0) m k = if j ≤ k then c * m (k - j) else 0 := by
  unfold mz
  by_cases h : j ≤ k
  · rw [if_pos h]
    have h1 : cs (k + 1) (fun i => (if i = j then c else 0) * m (k - i)) = cs (j + 1 + (k - j)) (fun i => (if i = j then c else 0) * m (k - i)) := by rw [show j + 1 + (k - j) = k + 1 by omega]
    have more : ∀ d, cs (j + 1 + d) (fun i => (if i = j then c else 0) * m (k - i)) = cs (j + 1) (fun i => (if i = j then c else 0) * m (k - i)) := by
      intro d
      induction d with
      | zero => rfl
      | succ d ih => rw [← Nat.add_assoc, cs_s, ih, if_neg (by omega), Int.zero_mul, Int.add_zero]
    rw [h1, more, cs_s, cs_zero j (fun i hi => by rw [if_neg (by omega), Int.zero_mul]), if_pos rfl]
    omega
  · rw [if_neg h]
    exact cs_zero _ (fun i hi => by show (if i = j then c else 0) * _ = 0; rw [if_neg (by omega), Int.zero_mul])
theorem fin_mono (c : Int) (j : Nat) : fin (fun i => if i = j then c else 0) := ⟨j + 1, fun k hk => by show (if k = j then c else 0) = 0; rw [if_neg (by omega)]⟩
/-- every one has a rest of a lesser degree -/
theorem rest_ex {d : Nat} (hp : 0 < p) (hm : monS d m) : ∀ (i : Nat) (f : Nat → Int), (∀ k, d + i ≤ k → f k = 0) → ∃ g : Nat → Int, (∀ k, 0 ≤ g k ∧ g k < p) ∧ (∀ k, d ≤ k → g k = 0) ∧ rm p m f g
  | 0, f, hf => by
    refine ⟨fun k => f k % p, fun k => ⟨Int.emod_nonneg _ (by omega), Int.emod_lt_of_pos _ hp⟩, fun k hk => ?_, rm_of_cg fun k => ?_⟩
    · show f k % p = 0
      rw [hf k (by omega)]; simp
    · exact Int.dvd_self_sub_emod
  | i + 1, f, hf => by
    obtain ⟨c, hc⟩ : ∃ c, c = f (d + i) := ⟨_, rfl⟩
    obtain ⟨g, h1, h2, h3⟩ := rest_ex hp hm i (sz f (mz (fun j => if j = i then c else 0) m)) (by
      intro k hk
      unfold sz
      rw [mz_mono, if_pos (by omega)]
      by_cases e : k = d + i
      · subst e
        rw [show d + i - i = d by omega, hm.1, ← hc]
        omega
      · rw [hf k (by omega), hm.2 (k - i) (by omega)]; simp)
    refine ⟨g, h1, h2, rm_trans ?_ h3⟩
    refine ⟨_, fin_mono c i, fun k => ⟨0, ?_⟩⟩
    unfold sz
    omega
def digs (p : Nat) : Nat → Nat → List Nat
  | 0, _ => []
  | d + 1, N => N % p :: digs p d (N / p)
theorem digs_len (p : Nat) : ∀ d N, (digs p d N).length = d
  | 0, _ => rfl
  | d + 1, N => by show (digs p d (N / p)).length + 1 = d + 1; rw [digs_len p d]
theorem digs_out (p : Nat) : ∀ d N k, d ≤ k → (digs p d N).getD k 0 = 0
  | 0, _, k, _ => by show ([] : List Nat).getD k 0 = 0; simp
  | d + 1, N, 0, h => by omega
  | d + 1, N, k + 1, h => digs_out p d (N / p) k (by omega)
theorem digs_lt {p : Nat} (hp : 0 < p) : ∀ d N k, (digs p d N).getD k 0 < p
  | 0, _, k => by show ([] : List Nat).getD k 0 < p; simpa using hp
  | d + 1, N, 0 => Nat.mod_lt _ hp
  | d + 1, N, k + 1 => digs_lt hp d (N / p) k
theorem digs_inj {p : Nat} (hp : 0 < p) : ∀ d N M, N < p ^ d → M < p ^ d → (∀ k, (digs p d N).getD k 0 = (digs p d M).getD k 0) → N = M
  | 0, N, M, h1, h2, _ => by rw [Nat.pow_zero] at h1 h2; omega
  | d + 1, N, M, h1, h2, h => by
    have h0 : N % p = M % p := h 0
    have hr := digs_inj hp d (N / p) (M / p) (by rw [Nat.div_lt_iff_lt_mul hp]; rwa [Nat.pow_succ] at h1) (by rw [Nat.div_lt_iff_lt_mul hp]; rwa [Nat.pow_succ] at h2) (fun k => h (k + 1))
    rw [← Nat.div_add_mod N p, ← Nat.div_add_mod M p, h0, hr]
theorem digs_sur {p : Nat} : ∀ d (g : Nat → Nat), (∀ k, g k < p) → ∃ N, N < p ^ d ∧ ∀ k, k < d → (digs p d N).getD k 0 = g k
  | 0, _, _ => ⟨0, by simp, fun k hk => by omega⟩
  | d + 1, g, hg => by
    obtain ⟨N, h1, h2⟩ := digs_sur d (fun k => g (k + 1)) (fun k => hg (k + 1))
    have hp : 0 < p := by have := hg 0; omega
    have e1 : (p * N + g 0) % p = g 0 := by rw [Nat.mul_add_mod, Nat.mod_eq_of_lt (hg 0)]
    have e2 : (p * N + g 0) / p = N := by rw [Nat.mul_add_div hp, Nat.div_eq_of_lt (hg 0)]; omega
    refine ⟨p * N + g 0, ?_, fun k hk => ?_⟩
    · rw [Nat.pow_succ, Nat.mul_comm (p ^ d)]
      have : p * (N + 1) ≤ p * p ^ d := Nat.mul_le_mul_left p h1
      have h3 := hg 0
      rw [Nat.mul_add] at this
      omega
    · show ((p * N + g 0) % p :: digs p d ((p * N + g 0) / p)).getD k 0 = g k
      rw [e1, e2]
      cases k with
      | zero => rfl
      | succ k => exact h2 k (by omega)
end
/-- no product is divided without one of the factors -/
def euclS (p : Int) (m : Nat → Int) : Prop := ∀ a b : Nat → Int, fin a → fin b → rm p m (mz a b) zS → rm p m a zS ∨ rm p m b zS
theorem dvd_small {p x : Int} (h : p ∣ x) (h1 : -p < x) (h2 : x < p) : x = 0 := by
  obtain ⟨c, rfl⟩ := h
  by_cases h4 : c = 0
  · rw [h4, Int.mul_zero]
  · exfalso
    have hp : 0 < p := by omega
    by_cases h5 : 0 < c
    · have : p * 1 ≤ p * c := Int.mul_le_mul_of_nonneg_left (by omega) (by omega)
      omega
    · have : p * c ≤ p * (-1) := Int.mul_le_mul_of_nonneg_left (by omega) (by omega)
      omega
/-- T to the power p^d is T modulo m, and no lesser one -/
theorem field_T {p d : Nat} {m : Nat → Int} (hp : p = 2 ∨ p = 3 ∨ p = 5 ∨ p = 7) (hm : monS d m) (hml : ∀ k, 0 ≤ m k) (hd : 1 ≤ d) (hE : euclS p m) :
    rm p m (pwz TS (p ^ d)) TS ∧ ∀ n, 1 ≤ n → rm p m (pwz TS (p ^ n)) TS → d ≤ n := by
  have hp0 : 0 < p := by omega
  have low : ∀ f g : Nat → Int, (∀ k, 0 ≤ f k ∧ f k < p) → (∀ k, 0 ≤ g k ∧ g k < p) → (∀ k, d ≤ k → f k = 0) → (∀ k, d ≤ k → g k = 0) → rm p m f g → ∀ k, f k = g k := by
    intro f g hf hg hf0 hg0 h k
    have := rm_unique (d := d) (v := 1) (by rw [hm.1]; exact ⟨0, by omega⟩) hm.2 (fun k hk => by rw [hf0 k hk, hg0 k hk]; exact ⟨0, by omega⟩) h k
    have h1 := hf k
    have h2 := hg k
    have := dvd_small this (by omega) (by omega)
    omega
  have main := field_main (R := Res p m) (p := p) (d := d) (by
      intro a b hab
      induction a using res_ind with | h f hf =>
      induction b using res_ind with | h g hg =>
      have h1 := cl_eq.1 (hab : (cl (mz f g) (fin_mz hf hg) : Res p m) = cl zS fin_zS)
      rcases hE f g hf hg h1 with h | h
      · exact .inl (cl_eq.2 h)
      · exact .inr (cl_eq.2 h)) hp (by
      rw [nm_cl]
      exact cl_eq.2 (rm_of_cg fun k => by
        unfold zS
        split
        · exact ⟨1, by omega⟩
        · exact ⟨0, by omega⟩)) (by
      intro h
      have h1 := cl_eq.1 (h : (cl oneS fin_oneS : Res p m) = cl zS fin_zS)
      have := low oneS zS (fun k => by unfold oneS; split <;> omega) (fun k => by unfold zS; omega) (fun k hk => by unfold oneS; rw [if_neg (by omega)]) (fun k _ => rfl) h1 0
      simp [oneS, zS] at this) tt
    ((List.range (p ^ d)).map fun N => pe (digs p d N) tt) (by
      rw [List.nodup_iff_pairwise_ne, List.pairwise_map]
      refine List.Pairwise.imp_of_mem ?_ List.pairwise_lt_range
      intro i j hi hj hij heq
      rw [pe_cl, pe_cl] at heq
      have := low _ _ (fun k => by unfold ser; have := digs_lt hp0 d i k; omega) (fun k => by unfold ser; have := digs_lt hp0 d j k; omega) (fun k hk => by unfold ser; rw [digs_out _ _ _ _ hk]; rfl) (fun k hk => by unfold ser; rw [digs_out _ _ _ _ hk]; rfl) (cl_eq.1 heq)
      have := digs_inj hp0 d i j (by simpa using hi) (by simpa using hj) (fun k => by have := this k; unfold ser at this; omega)
      omega) (by simp) (by
      intro x
      induction x using res_ind with | h f hf =>
      obtain ⟨N, hN⟩ := hf
      obtain ⟨g, h1, h2, h3⟩ := rest_ex (p := p) (by omega) hm N f (fun k hk => hN k (by omega))
      obtain ⟨M, h4, h5⟩ := digs_sur (p := p) d (fun k => (g k).toNat) (fun k => by have := h1 k; omega)
      refine List.mem_map.2 ⟨M, by simpa using h4, ?_⟩
      rw [pe_cl]
      refine cl_eq.2 (rm_symm (rm_trans h3 (rm_of_cg fun k => ⟨0, ?_⟩)))
      unfold ser
      by_cases hk : k < d
      · rw [h5 k hk]; have := h1 k; omega
      · rw [digs_out _ _ _ _ (by omega), h2 k (by omega)]; omega) (by
      intro x
      induction x using res_ind with | h f hf =>
      obtain ⟨N, hN⟩ := hf
      obtain ⟨g, h1, h2, h3⟩ := rest_ex (p := p) (by omega) hm N f (fun k hk => hN k (by omega))
      obtain ⟨M, h4, h5⟩ := digs_sur (p := p) d (fun k => (g k).toNat) (fun k => by have := h1 k; omega)
      refine ⟨digs p d M, ?_⟩
      rw [pe_cl]
      refine cl_eq.2 (rm_trans h3 (rm_of_cg fun k => ⟨0, ?_⟩))
      unfold ser
      by_cases hk : k < d
      · rw [h5 k hk]; have := h1 k; omega
      · rw [digs_out _ _ _ _ (by omega), h2 k (by omega)]; omega)
    ((List.range d).map fun k => (m k).toNat) (by simp) (by
      rw [pe_cl]
      refine cl_eq.2 ?_
      have e : ser ((List.range d).map (fun k => (m k).toNat) ++ [1]) = mz oneS m := by
        have h1 : mz oneS m = m := mz_one m
        rw [h1]
        funext k
        unfold ser
        by_cases h : k < d
        · have := hml k
          rw [List.getD_eq_getElem?_getD, List.getElem?_append_left (by simpa using h)]
          simp [h]
          omega
        · rw [List.getD_eq_getElem?_getD, List.getElem?_append_right (by simpa using h)]
          by_cases h2 : k = d
          · subst h2; simp [hm.1]
          · rw [hm.2 k (by omega)]
            have : ([1] : List Nat)[k - ((List.range d).map fun k => (m k).toNat).length]? = none := by simp; omega
            rw [this]; rfl
      rw [e]
      exact rm_zero fin_oneS)
  obtain ⟨a1, a2⟩ := main
  have conv : ∀ n, fr' p n (tt : Res p m) = tt ↔ rm p m (pwz TS (p ^ n)) TS := by
    intro n
    unfold fr'
    have : pw (tt : Res p m) (p ^ n) = cl (pwz TS (p ^ n)) (fin_pwz fin_TS _) := pw_cl fin_TS _
    rw [this]
    exact cl_eq
  exact ⟨(conv d).1 a1, fun n hn h => a2 n hn ((conv n).2 h)⟩
end Go.Proofs.Ytkaaffccklkafaa
