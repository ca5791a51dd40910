/-
  What the rows of this claim rest on: arrays of bytes, walks of the functions, plain mathematics.
-/
import Derived.Test.YtifdkepkedlmoaaZb1
import Derived.ScopeJumps
import Derived.Laws.StructEq
import Derived.Laws.Tables
section
namespace Go.Proofs.Ytifdkepkedlmoaa
set_option linter.unusedVariables false
set_option linter.unusedSimpArgs false
/-- the same modulo p -/
def em (p a b : Int) : Prop := p ∣ a - b
theorem em_refl (p a : Int) : em p a a := ⟨0, by omega⟩
theorem em_symm {p a b : Int} (h : em p a b) : em p b a := by
 obtain ⟨q, hq⟩ := h; exact ⟨-q, by rw [Int.mul_neg]; omega⟩
theorem em_trans {p a b c : Int} (h : em p a b) (k : em p b c) : em p a c := by
 have := Int.dvd_add h k
 unfold em
 rwa [show a - c = a - b + (b - c) by omega]
theorem em_mul {p a b c d : Int} (h : em p a b) (k : em p c d) : em p (a * c) (b * d) := by
 obtain ⟨x, hx⟩ := h
 obtain ⟨y, hy⟩ := k
 refine ⟨x * c + b * y, ?_⟩
 have e : a * c - b * d = (a - b) * c + b * (c - d) := by rw [Int.sub_mul, Int.mul_sub]; omega
 rw [e, hx, hy, Int.mul_add, Int.mul_assoc, ← Int.mul_assoc p b y, Int.mul_comm p b, Int.mul_assoc]
theorem em_of {p a b : Int} (h : a = b) : em p a b := by subst h; exact em_refl p a
/-- products over a list -/
def pl (l : List Nat) (f : Nat → Int) : Int := l.foldr (fun x a => f x * a) 1
theorem pl_nil (f : Nat → Int) : pl [] f = 1 := rfl
theorem pl_cons (x : Nat) (l : List Nat) (f : Nat → Int) : pl (x :: l) f = f x * pl l f := rfl
theorem pl_append (f : Nat → Int) : ∀ l k : List Nat, pl (l ++ k) f = pl l f * pl k f
 | [], k => by rw [List.nil_append, pl_nil, Int.one_mul]
 | x :: l, k => by rw [List.cons_append, pl_cons, pl_cons, pl_append f l k, Int.mul_assoc]
theorem pl_em {p : Int} {f g : Nat → Int} : ∀ l : List Nat, (∀ x, x ∈ l → em p (f x) (g x)) → em p (pl l f) (pl l g)
 | [], _ => em_refl _ _
 | x :: l, h => em_mul (h x (by simp)) (pl_em l fun y hy => h y (by simp [hy]))
theorem pl_mul (f g : Nat → Int) : ∀ l : List Nat, pl l (fun x => f x * g x) = pl l f * pl l g
 | [] => rfl
 | x :: l => by
  rw [pl_cons, pl_cons, pl_cons, pl_mul f g l]
  rw [Int.mul_assoc, Int.mul_assoc, ← Int.mul_assoc (g x), ← Int.mul_assoc (pl l f), Int.mul_comm (g x) (pl l f)]
theorem pl_map (σ : Nat → Nat) (f : Nat → Int) : ∀ l : List Nat, pl (l.map σ) f = pl l (fun x => f (σ x))
 | [] => rfl
 | x :: l => by rw [List.map_cons, pl_cons, pl_cons, pl_map σ f l]
theorem pl_perm {l k : List Nat} (h : l.Perm k) (f : Nat → Int) : pl l f = pl k f := by
 induction h with
 | nil => rfl
 | cons x _ ih => rw [pl_cons, pl_cons, ih]
 | swap x y l => rw [pl_cons, pl_cons, pl_cons, pl_cons, ← Int.mul_assoc, ← Int.mul_assoc, Int.mul_comm (f y)]
 | trans _ _ h1 h2 => rw [h1, h2]
theorem pl_const (c : Int) : ∀ l : List Nat, pl l (fun _ => c) = c ^ l.length
 | [] => by rw [pl_nil, List.length_nil, Int.pow_zero]
 | x :: l => by rw [pl_cons, pl_const c l, List.length_cons, Int.pow_succ, Int.mul_comm]
theorem pl_pow (f : Nat → Int) (n : Nat) : ∀ l : List Nat, pl l (fun x => f x ^ n) = pl l f ^ n
 | [] => by rw [pl_nil, pl_nil, Int.one_pow]
 | x :: l => by rw [pl_cons, pl_cons, pl_pow f n l, Int.mul_pow]
theorem pl_swap (F : Nat → Nat → Int) (k : List Nat) : ∀ l : List Nat, pl l (fun x => pl k (fun y => F x y)) = pl k (fun y => pl l (fun x => F x y))
 | [] => by
  rw [pl_nil, show (fun y => pl [] fun x => F x y) = fun _ => (1 : Int) from rfl, pl_const, Int.one_pow]
 | x :: l => by rw [pl_cons, pl_swap F k l, ← pl_mul]; rfl
/-- a list without doubles that lies in another one that isn't longer is the same, in some order -/
theorem perm_of {α : Type} [DecidableEq α] : ∀ (l k : List α), l.Nodup → (∀ x, x ∈ l → x ∈ k) → k.length ≤ l.length → l.Perm k
 | [], k, _, _, h => by
  have : k = [] := List.eq_nil_of_length_eq_zero (by simpa using h)
  rw [this]
 | a :: l, k, hn, hs, h => by
  have ha := hs a (by simp)
  have h1 := List.perm_cons_erase ha
  refine List.Perm.trans (List.Perm.cons a ?_) h1.symm
  rw [List.nodup_cons] at hn
  refine perm_of l (k.erase a) hn.2 (fun x hx => ?_) ?_
  · exact (List.mem_erase_of_ne (fun e => hn.1 (by rw [← e]; exact hx))).2 (hs x (by simp [hx]))
  · rw [List.length_erase_of_mem ha]
    simp at h
    omega
theorem pl_turn {l k : List Nat} (σ : Nat → Nat) (f : Nat → Int) (hl : l.Nodup) (hi : ∀ x y, x ∈ l → y ∈ l → σ x = σ y → x = y) (hs : ∀ x, x ∈ l → σ x ∈ k) (h : k.length ≤ l.length) : pl l (fun x => f (σ x)) = pl k f := by
 rw [← pl_map]
 refine pl_perm (perm_of _ _ ?_ ?_ (by rw [List.length_map]; exact h)) f
 · rw [List.nodup_iff_pairwise_ne, List.pairwise_map]
   rw [List.nodup_iff_pairwise_ne] at hl
   refine List.Pairwise.imp_of_mem ?_ hl
   intro a b ha hb hab e
   exact hab (hi a b ha hb e)
 · intro x hx
   obtain ⟨y, hy, rfl⟩ := List.mem_map.1 hx
   exact hs y hy
theorem pl_range (n : Nat) (f : Nat → Int) : ∀ k, pl (List.range (k * n)) f = pl (List.range k) (fun c => pl (List.range n) (fun x => f (c * n + x)))
 | 0 => by simp [pl_nil]
 | k + 1 => by
  rw [Nat.succ_mul, List.range_add, pl_append, pl_range n f k, List.range_succ, pl_append, pl_cons, pl_nil, Int.mul_one, pl_map]
theorem pl_first (f : Nat → Int) (n : Nat) : pl (List.range (n + 1)) f = f 0 * pl (List.range n) (fun x => f (x + 1)) := by
 rw [List.range_succ_eq_map, pl_cons, pl_map]
/-- the signs -/
theorem em_sign {p : Int} {a b : Nat} (h : p = 2 ∨ a % 2 = b % 2) : em p ((-1) ^ a) ((-1) ^ b) := by
 have two : ∀ n : Nat, ((-1 : Int) ^ n = 1 ∧ n % 2 = 0) ∨ ((-1 : Int) ^ n = -1 ∧ n % 2 = 1) := by
  intro n
  induction n with
  | zero => left; exact ⟨rfl, rfl⟩
  | succ n ih =>
   rcases ih with ⟨h, h2⟩ | ⟨h, h2⟩
   · right; rw [Int.pow_succ, h]; exact ⟨by omega, by omega⟩
   · left; rw [Int.pow_succ, h]; exact ⟨by omega, by omega⟩
 rcases two a with ⟨h1, h2⟩ | ⟨h1, h2⟩ <;> rcases two b with ⟨h3, h4⟩ | ⟨h3, h4⟩ <;> rw [h1, h3] <;> rcases h with h | h
 · exact em_refl _ _
 · exact em_refl _ _
 · subst h; exact ⟨1, by omega⟩
 · omega
 · subst h; exact ⟨-1, by omega⟩
 · omega
 · exact em_refl _ _
 · exact em_refl _ _
/-- p is prime -/
theorem prm4 {p : Nat} (hp : p = 2 ∨ p = 3 ∨ p = 5 ∨ p = 7) {x y : Int} (h : (p : Int) ∣ x * y) : (p : Int) ∣ x ∨ (p : Int) ∣ y := by
 have h1 : (x % p) * (y % p) % p = 0 := by rw [← Int.mul_emod]; exact Int.emod_eq_zero_of_dvd h
 have a1 := Int.emod_nonneg x (show (p : Int) ≠ 0 by omega)
 have a2 := Int.emod_lt_of_pos x (show (0 : Int) < p by omega)
 have b1 := Int.emod_nonneg y (show (p : Int) ≠ 0 by omega)
 have b2 := Int.emod_lt_of_pos y (show (0 : Int) < p by omega)
 obtain ⟨X, hX⟩ : ∃ X, X = x % (p : Int) := ⟨_, rfl⟩
 obtain ⟨Y, hY⟩ : ∃ Y, Y = y % (p : Int) := ⟨_, rfl⟩
 rw [← hX] at h1 a1 a2
 rw [← hY] at h1 b1 b2
 have key : X = 0 ∨ Y = 0 := by
  rcases hp with rfl | rfl | rfl | rfl
  · have : X = 0 ∨ X = 1 := by omega
    rcases this with rfl | rfl <;> omega
  · have : X = 0 ∨ X = 1 ∨ X = 2 := by omega
    rcases this with rfl | rfl | rfl <;> omega
  · have : X = 0 ∨ X = 1 ∨ X = 2 ∨ X = 3 ∨ X = 4 := by omega
    rcases this with rfl | rfl | rfl | rfl | rfl <;> omega
  · have : X = 0 ∨ X = 1 ∨ X = 2 ∨ X = 3 ∨ X = 4 ∨ X = 5 ∨ X = 6 := by omega
    rcases this with rfl | rfl | rfl | rfl | rfl | rfl | rfl <;> omega
 rcases key with h2 | h2
 · left; exact Int.dvd_of_emod_eq_zero (by omega)
 · right; exact Int.dvd_of_emod_eq_zero (by omega)
theorem inv4 {p : Nat} (hp : p = 2 ∨ p = 3 ∨ p = 5 ∨ p = 7) {x : Int} (h : ¬ (p : Int) ∣ x) : ∃ v, em p (v * x) 1 := by
 have a1 := Int.emod_nonneg x (show (p : Int) ≠ 0 by omega)
 have a2 := Int.emod_lt_of_pos x (show (0 : Int) < p by omega)
 have a3 : x % (p : Int) ≠ 0 := fun e => h (Int.dvd_of_emod_eq_zero e)
 have hx := Int.emod_add_mul_ediv x p
 obtain ⟨X, hX⟩ : ∃ X, X = x % (p : Int) := ⟨_, rfl⟩
 obtain ⟨q, hq⟩ : ∃ q, q = x / (p : Int) := ⟨_, rfl⟩
 rw [← hX] at a1 a2 a3 hx
 rw [← hq] at hx
 have key : ∃ v k : Int, v * X - 1 = p * k := by
  rcases hp with rfl | rfl | rfl | rfl
  · exact ⟨1, 0, by omega⟩
  · have : X = 1 ∨ X = 2 := by omega
    rcases this with rfl | rfl
    · exact ⟨1, 0, by omega⟩
    · exact ⟨2, 1, by omega⟩
  · have : X = 1 ∨ X = 2 ∨ X = 3 ∨ X = 4 := by omega
    rcases this with rfl | rfl | rfl | rfl
    · exact ⟨1, 0, by omega⟩
    · exact ⟨3, 1, by omega⟩
    · exact ⟨2, 1, by omega⟩
    · exact ⟨4, 3, by omega⟩
  · have : X = 1 ∨ X = 2 ∨ X = 3 ∨ X = 4 ∨ X = 5 ∨ X = 6 := by omega
    rcases this with rfl | rfl | rfl | rfl | rfl | rfl
    · exact ⟨1, 0, by omega⟩
    · exact ⟨4, 1, by omega⟩
    · exact ⟨5, 2, by omega⟩
    · exact ⟨2, 1, by omega⟩
    · exact ⟨3, 2, by omega⟩
    · exact ⟨6, 5, by omega⟩
 obtain ⟨v, k, hk⟩ := key
 refine ⟨v, k + v * q, ?_⟩
 rw [Int.mul_add, ← Int.mul_assoc (p : Int) v q, Int.mul_comm (p : Int) v, Int.mul_assoc, ← hk]
 rw [← hx, Int.mul_add]
 omega
theorem em_cancel {p : Nat} (hp : p = 2 ∨ p = 3 ∨ p = 5 ∨ p = 7) {a b c : Int} (hc : ¬ (p : Int) ∣ c) (h : em p (c * a) (c * b)) : em p a b := by
 unfold em at *
 rw [← Int.mul_sub] at h
 exact (prm4 hp h).resolve_left hc
theorem ndvd_em {p a b : Int} (h : em p a b) (ha : ¬ p ∣ a) : ¬ p ∣ b := fun hb => ha (by
 have := Int.dvd_add h hb
 rwa [show a - b + b = a by omega] at this)
theorem ndvd_mul {p : Nat} (hp : p = 2 ∨ p = 3 ∨ p = 5 ∨ p = 7) {a b : Int} (ha : ¬ (p : Int) ∣ a) (hb : ¬ (p : Int) ∣ b) : ¬ (p : Int) ∣ a * b := fun h => (prm4 hp h).elim ha hb
theorem ndvd_one {p : Nat} (hp : p = 2 ∨ p = 3 ∨ p = 5 ∨ p = 7) : ¬ (p : Int) ∣ 1 := by
 rintro ⟨k, hk⟩
 rcases hp with rfl | rfl | rfl | rfl <;> omega
/-- the leading place and coefficient -/
def ldc (p : Int) (f : Nat → Int) (n : Nat) (c : Int) : Prop := (∀ k, n < k → p ∣ f k) ∧ ¬ p ∣ c ∧ em p (f n) c
theorem ldc_un {p : Int} {f : Nat → Int} {n n' : Nat} {c c' : Int} (h : ldc p f n c) (h' : ldc p f n' c') : n = n' ∧ em p c c' := by
 have a : ¬ n < n' := fun hlt => ndvd_em (em_symm h'.2.2) h'.2.1 (h.1 n' hlt)
 have b : ¬ n' < n := fun hlt => ndvd_em (em_symm h.2.2) h.2.1 (h'.1 n hlt)
 obtain rfl : n = n' := by omega
 exact ⟨rfl, em_trans (em_symm h.2.2) h'.2.2⟩
theorem ldc_cg {p : Int} {f g : Nat → Int} {n : Nat} {c : Int} (h : cg p f g) (hl : ldc p f n c) : ldc p g n c :=
 ⟨fun k hk => by
  have := Int.dvd_sub (hl.1 k hk) (h k)
  rwa [show f k - (f k - g k) = g k by omega] at this, hl.2.1, em_trans (em_symm (h n)) hl.2.2⟩
theorem ldc_c {p : Int} {f : Nat → Int} {n : Nat} {c c' : Int} (h : em p c c') (hl : ldc p f n c) : ldc p f n c' := ⟨hl.1, ndvd_em h hl.2.1, em_trans hl.2.2 h⟩
theorem ldc_cz {p : Nat} (hp : p = 2 ∨ p = 3 ∨ p = 5 ∨ p = 7) {f : Nat → Int} {n : Nat} {c k : Int} (hk : ¬ (p : Int) ∣ k) (h : ldc p f n c) : ldc p (cz k f) n (k * c) :=
 ⟨fun j hj => Int.dvd_mul_of_dvd_right (h.1 j hj), ndvd_mul hp hk h.2.1, em_mul (em_refl _ _) h.2.2⟩
theorem ldc_add {p : Int} {f g : Nat → Int} {n d : Nat} {c : Int} (h : ldc p f n c) (hg : ∀ k, d ≤ k → p ∣ g k) (hd : d ≤ n) : ldc p (az f g) n c :=
 ⟨fun k hk => Int.dvd_add (h.1 k hk) (hg k (by omega)), h.2.1, by
  have h1 := hg n hd
  refine em_trans ?_ h.2.2
  unfold em az
  rwa [show f n + g n - f n = g n by omega]⟩
theorem ldc_mz {p : Nat} (hp : p = 2 ∨ p = 3 ∨ p = 5 ∨ p = 7) {f g : Nat → Int} {a b : Nat} {c c' : Int} (hf : ldc p f a c) (hg : ldc p g b c') : ldc p (mz f g) (a + b) (c * c') := by
 refine ⟨fun k hk => ?_, ndvd_mul hp hf.2.1 hg.2.1, ?_⟩
 · unfold mz
   refine cs_dvd _ fun i hi => ?_
   by_cases h : a < i
   · exact Int.dvd_mul_of_dvd_left (hf.1 i h)
   · exact Int.dvd_mul_of_dvd_right (hg.1 (k - i) (by omega))
 · have h1 : (p : Int) ∣ mz f g (a + b) - f a * g (a + b - a) := by
    unfold mz
    refine cs_but (t := fun i => f i * g (a + b - i)) _ (by omega) fun i hi hne => ?_
    by_cases h : a < i
    · exact Int.dvd_mul_of_dvd_left (hf.1 i h)
    · exact Int.dvd_mul_of_dvd_right (hg.1 (a + b - i) (by omega))
   rw [show a + b - a = b by omega] at h1
   exact em_trans h1 (em_mul hf.2.2 hg.2.2)
theorem ldc_ex {p : Int} : ∀ (n : Nat) (f : Nat → Int), (∀ k, n ≤ k → p ∣ f k) → cg p f zS ∨ ∃ m c, m < n ∧ ldc p f m c
 | 0, f, h => .inl fun k => by have := h k (by omega); unfold zS; rwa [Int.sub_zero]
 | n + 1, f, h => by
  by_cases hn : p ∣ f n
  · rcases ldc_ex n f (fun k hk => by
     by_cases e : k = n
     · subst e; exact hn
     · exact h k (by omega)) with h1 | ⟨m, c, hm, h1⟩
    · exact .inl h1
    · exact .inr ⟨m, c, by omega, h1⟩
  · exact .inr ⟨n, f n, by omega, fun k hk => h k (by omega), hn, em_refl _ _⟩
open Classical in
/-- the leading coefficient, 1 of nothing -/
noncomputable def lc (p : Int) (f : Nat → Int) : Int := if h : ∃ c, ∃ n, ldc p f n c then h.choose else 1
theorem lc_em {p : Int} {f : Nat → Int} {n : Nat} {c : Int} (h : ldc p f n c) : em p (lc p f) c := by
 have hx : ∃ c, ∃ n, ldc p f n c := ⟨c, n, h⟩
 unfold lc
 rw [dif_pos hx]
 obtain ⟨n', h'⟩ := hx.choose_spec
 exact (ldc_un h' h).2
theorem lc_zero {p : Int} {f : Nat → Int} (h : cg p f zS) : lc p f = 1 := by
 unfold lc
 rw [dif_neg]
 rintro ⟨c, n, h2⟩
 have := (ldc_cg h h2).2.2
 exact ndvd_em (em_symm this) h2.2.1 ⟨0, by unfold zS; omega⟩
theorem lc_cg {p : Int} {f g : Nat → Int} (h : cg p f g) : em p (lc p f) (lc p g) := by
 by_cases hx : ∃ c, ∃ n, ldc p f n c
 · obtain ⟨c, n, hc⟩ := hx
   exact em_trans (lc_em hc) (em_symm (lc_em (ldc_cg h hc)))
 · have hy : ¬ ∃ c, ∃ n, ldc p g n c := fun ⟨c, n, hc⟩ => hx ⟨c, n, ldc_cg (cg_symm h) hc⟩
   unfold lc
   rw [dif_neg hx, dif_neg hy]
   exact em_refl _ _
end Go.Proofs.Ytifdkepkedlmoaa
end
section
namespace Go.Proofs.Ytifdkepkedlmoaa
set_option linter.unusedVariables false
set_option linter.unusedSimpArgs false
/-- the digits of a number -/
def dg (p N : Nat) : Nat → Int := fun k => (ofN p N k : Int)
theorem dg_big {p N k : Nat} (hp : 2 ≤ p) (h : N < p ^ k) {j : Nat} (hj : k ≤ j) : dg p N j = 0 := by
 unfold dg ofN dgt
 have h1 : p ^ k ≤ p ^ j := Nat.pow_le_pow_right (by omega) hj
 rw [Nat.div_eq_of_lt (by omega)]; simp
theorem fin_dg {p : Nat} (N : Nat) (hp : 2 ≤ p) : fin (dg p N) := ⟨N, fun k hk => by
 refine dg_big hp (k := N) ?_ hk
 have h1 : N < 2 ^ N := Nat.lt_two_pow_self
 have h2 : 2 ^ N ≤ p ^ N := Nat.pow_le_pow_left hp N
 omega⟩
theorem dg_lt {p N : Nat} (hp : 0 < p) (k : Nat) : 0 ≤ dg p N k ∧ dg p N k < p := by
 have h := ofN_lt (p := p) hp N k
 unfold dg; omega
theorem dg_mon {p n N : Nat} (hp : 2 ≤ p) (h : N ∈ monL p n) : monS n (dg p N) := by
 obtain ⟨h1, h2⟩ := monL_mem.1 h
 refine ⟨?_, fun k hk => ?_⟩
 · unfold dg; rw [ofN_top hp h1 h2]; rfl
 · unfold dg; rw [ofN_high hp h2 hk]; rfl
theorem ldc_mon {p n : Nat} {f : Nat → Int} (hp : p = 2 ∨ p = 3 ∨ p = 5 ∨ p = 7) (h : monS n f) : ldc p f n 1 :=
 ⟨fun k hk => by rw [h.2 k hk]; exact ⟨0, by omega⟩, ndvd_one hp, em_of h.1⟩
theorem dg_inj {p n N M : Nat} (hp : 2 ≤ p) (hN : N ∈ monL p n) (hM : M ∈ monL p n) (h : ∀ k, k < n → (p : Int) ∣ dg p N k - dg p M k) : N = M := by
 have h1 := (monL_mem.1 hN).2
 have h2 := (monL_mem.1 hM).2
 have e : p ^ (n + 1) = p ^ n * p := Nat.pow_succ p n
 have h3 : 2 * p ^ n ≤ p ^ n * p := by rw [Nat.mul_comm]; exact Nat.mul_le_mul_left _ hp
 rw [← vl_ofN (p := p) (by omega) (n + 1) N (by omega), ← vl_ofN (p := p) (by omega) (n + 1) M (by omega)]
 refine vl_congr _ fun k hk => ?_
 by_cases hkn : k = n
 · subst hkn
   rw [ofN_top hp (monL_mem.1 hN).1 h1, ofN_top hp (monL_mem.1 hM).1 h2]
 · have h4 := h k (by omega)
   have a := dg_lt (p := p) (N := N) (by omega) k
   have b := dg_lt (p := p) (N := M) (by omega) k
   have h5 := dvd_small h4 (by omega) (by omega)
   unfold dg at h5
   omega
/-- the monic ones of lesser degrees -/
def ML (p : Nat) : Nat → List Nat
 | 0 => []
 | d + 1 => ML p d ++ monL p d
def sn (p : Nat) : Nat → Nat
 | 0 => 0
 | d + 1 => sn p d + p ^ d
theorem ML_len (p : Nat) : ∀ d, (ML p d).length = sn p d
 | 0 => rfl
 | d + 1 => by rw [ML, List.length_append, ML_len p d, sn]; unfold monL; rw [List.length_range']
theorem ML_mem {p N : Nat} : ∀ {d : Nat}, N ∈ ML p d ↔ ∃ i, i < d ∧ N ∈ monL p i
 | 0 => by simp [ML]
 | d + 1 => by
  rw [ML, List.mem_append, ML_mem (d := d)]
  constructor
  · rintro (⟨i, hi, h⟩ | h)
    · exact ⟨i, by omega, h⟩
    · exact ⟨d, by omega, h⟩
  · rintro ⟨i, hi, h⟩
    by_cases e : i = d
    · subst e; exact .inr h
    · exact .inl ⟨i, by omega, h⟩
theorem ML_lt {p N : Nat} (hp : 2 ≤ p) {d : Nat} (h : N ∈ ML p d) : N < p ^ d := by
 obtain ⟨i, hi, h⟩ := ML_mem.1 h
 have h1 := (monL_mem.1 h).2
 have h2 : p ^ (i + 1) ≤ p ^ d := Nat.pow_le_pow_right (by omega) (by omega)
 have h3 : 2 * p ^ i ≤ p ^ (i + 1) := by rw [Nat.pow_succ, Nat.mul_comm]; exact Nat.mul_le_mul_left _ hp
 omega
theorem ML_nodup {p : Nat} (hp : 2 ≤ p) : ∀ d, (ML p d).Nodup
 | 0 => List.nodup_nil
 | d + 1 => by
  rw [ML, List.nodup_append]
  refine ⟨ML_nodup hp d, List.nodup_range', fun a ha b hb e => ?_⟩
  have h1 := ML_lt hp ha
  have h2 := (monL_mem.1 hb).1
  omega
open Classical in
/-- the rest -/
noncomputable def rst (p d : Nat) (m f : Nat → Int) : Nat → Int := if h : ∃ g : Nat → Int, (∀ k, 0 ≤ g k ∧ g k < p) ∧ (∀ k, d ≤ k → g k = 0) ∧ rm p m f g then h.choose else zS
theorem rst_ok {p d : Nat} {m f : Nat → Int} (hp : 0 < p) (hm : monS d m) (hf : fin f) : (∀ k, 0 ≤ rst p d m f k ∧ rst p d m f k < p) ∧ (∀ k, d ≤ k → rst p d m f k = 0) ∧ rm p m f (rst p d m f) := by
 obtain ⟨N, hN⟩ := hf
 have hx := rest_ex (p := (p : Int)) (by omega) hm N f (fun k hk => hN k (by omega))
 unfold rst
 rw [dif_pos hx]
 exact hx.choose_spec
theorem rm_low {p d : Nat} {m f g : Nat → Int} (hm : monS d m) (hf : ∀ k, d ≤ k → (p : Int) ∣ f k) (hg : ∀ k, d ≤ k → (p : Int) ∣ g k) (h : rm p m f g) : cg p f g :=
 rm_unique (v := 1) (d := d) (by rw [hm.1]; exact ⟨0, by omega⟩) hm.2 (fun k hk => Int.dvd_sub (hf k hk) (hg k hk)) h
theorem rst_un {p d : Nat} {m f g : Nat → Int} (hp : 0 < p) (hm : monS d m) (hf : fin f) (hg : ∀ k, d ≤ k → (p : Int) ∣ g k) (h : rm p m f g) : cg p (rst p d m f) g := by
 obtain ⟨_, h2, h3⟩ := rst_ok (p := p) hp hm hf
 exact rm_low hm (fun k hk => by rw [h2 k hk]; exact ⟨0, by omega⟩) hg (rm_trans (rm_symm h3) h)
/-- no common divisor -/
def cpr (p : Int) (a m : Nat → Int) : Prop := ∃ u v, fin u ∧ fin v ∧ cg p (az (mz u a) (mz v m)) oneS
theorem one_mz (f : Nat → Int) : mz oneS f = f := mz_one f
theorem cpr_can {p : Int} {a m x : Nat → Int} (h : cpr p a m) (ha : fin a) (hx : fin x) (h0 : rm p m (mz a x) zS) : rm p m x zS := by
 obtain ⟨u, v, hu, hv, e⟩ := h
 have e2 : cg p x (az (mz u (mz a x)) (mz (mz v x) m)) := by
  have h1 := cg_mz (g := x) e
  rw [one_mz, mz_az] at h1
  have h2 : mz (mz v m) x = mz (mz v x) m := by rw [mz_assoc, mz_comm m x, ← mz_assoc]
  rw [mz_assoc, h2] at h1
  exact cg_symm h1
 refine rm_trans (rm_of_cg e2) ?_
 have h3 : rm p m (mz u (mz a x)) zS := by
  have := rm_mz (g := u) hu h0
  rw [mz_comm, mz_comm zS u, mz_zS] at this
  exact this
 have h4 := rm_az h3 (rm_zero (p := p) (m := m) (fin_mz hv hx))
 have e3 : az zS (fun _ => (0 : Int)) = zS := zS_az _
 rwa [e3] at h4
theorem dg_low {p N d : Nat} (hp : 2 ≤ p) (h : N ∈ ML p d) : ∀ k, d ≤ k → (p : Int) ∣ dg p N k := fun k hk => by
 rw [dg_big hp (ML_lt hp h) hk]; exact ⟨0, by omega⟩
theorem cz_mz (c : Int) (f g : Nat → Int) : mz f (cz c g) = cz c (mz f g) := by rw [mz_comm, mz_cz, mz_comm]
/-- where a leads a monic one -/
theorem turn_ex {p d N : Nat} {m a : Nat → Int} (hp : p = 2 ∨ p = 3 ∨ p = 5 ∨ p = 7) (hm : monS d m) (ha : fin a) (hc : cpr p a m) (hN : N ∈ ML p d) :
 ∃ N', N' ∈ ML p d ∧ ∃ c, ¬ (p : Int) ∣ c ∧ em p (lc p (rst p d m (mz a (dg p N)))) c ∧ rm p m (mz a (dg p N)) (cz c (dg p N')) := by
 have p2 : 2 ≤ p := by omega
 have hfn := fin_mz ha (fin_dg (p := p) N p2)
 obtain ⟨r1, r2, r3⟩ := rst_ok (p := p) (by omega) hm hfn
 obtain ⟨r, hr⟩ : ∃ r, r = rst p d m (mz a (dg p N)) := ⟨_, rfl⟩
 rw [← hr] at r1 r2 r3 ⊢
 rcases ldc_ex (p := (p : Int)) d r (fun k hk => by rw [r2 k hk]; exact ⟨0, by omega⟩) with h0 | ⟨t, c, ht, hl⟩
 · exfalso
   have h1 := cpr_can hc ha (fin_dg (p := p) N p2) (rm_trans r3 (rm_of_cg h0))
   have h2 := rm_low hm (dg_low p2 hN) (fun k _ => ⟨0, by unfold zS; omega⟩) h1
   obtain ⟨i, hi, hNi⟩ := ML_mem.1 hN
   have h3 := (ldc_cg h2 (ldc_mon hp (dg_mon p2 hNi))).2
   exact ndvd_em (em_symm h3.2) h3.1 ⟨0, by unfold zS; omega⟩
 · obtain ⟨v, hv⟩ := inv4 hp hl.2.1
   obtain ⟨F, hF⟩ : ∃ F : Nat → Nat, F = fun k => (v * r k % (p : Int)).toNat := ⟨_, rfl⟩
   have hFi : ∀ k, (F k : Int) = v * r k % (p : Int) := fun k => by
    rw [hF]; exact Int.toNat_of_nonneg (Int.emod_nonneg _ (by omega))
   have hFl : ∀ k, F k < p := fun k => by
    have h1 := Int.emod_lt_of_pos (v * r k) (show (0 : Int) < p by omega)
    have h2 := hFi k
    omega
   have hF1 : F t = 1 := by
    have h1 := hFi t
    have h2 : em p (v * r t) 1 := em_trans (em_mul (em_refl _ _) hl.2.2) hv
    have h3 : (v * r t) % (p : Int) = 1 := by
     have := Int.emod_emod_of_dvd (v * r t) (Int.dvd_refl (p : Int))
     have h4 := (Int.emod_eq_emod_iff_emod_sub_eq_zero).2 (Int.emod_eq_zero_of_dvd h2)
     rw [h4]; exact Int.emod_eq_of_lt (by omega) (by omega)
    omega
   have hm2 : vl p F (t + 1) ∈ monL p t := by
    have h1 := vl_lt (p := p) t F hFl
    rw [monL_mem, vl_snoc, hF1]
    omega
   refine ⟨vl p F (t + 1), ML_mem.2 ⟨t, ht, hm2⟩, c, hl.2.1, lc_em hl, rm_trans r3 (rm_of_cg fun k => ?_)⟩
   unfold cz
   by_cases hk : k ≤ t
   · have h1 : dg p (vl p F (t + 1)) k = v * r k % (p : Int) := by
      unfold dg; rw [ofN_vl (t + 1) F hFl k (by omega), hFi]
     rw [h1]
     have h2 : em p (c * (v * r k % (p : Int))) (c * (v * r k)) := em_mul (em_refl _ _) (by
      have := Int.dvd_self_sub_emod (x := v * r k) (m := (p : Int))
      exact em_symm this)
     have h3 : em p (c * (v * r k)) (1 * r k) := by
      rw [← Int.mul_assoc, Int.mul_comm c v]
      exact em_mul hv (em_refl _ _)
     rw [Int.one_mul] at h3
     exact em_symm (em_trans h2 h3)
   · rw [(dg_mon p2 hm2).2 k (by omega), Int.mul_zero, Int.sub_zero]
     exact hl.1 k (by omega)
open Classical in
noncomputable def sg (p d : Nat) (m a : Nat → Int) (N : Nat) : Nat := if h : ∃ N', N' ∈ ML p d ∧ ∃ c, ¬ (p : Int) ∣ c ∧ em p (lc p (rst p d m (mz a (dg p N)))) c ∧ rm p m (mz a (dg p N)) (cz c (dg p N')) then h.choose else N
theorem sg_ok {p d N : Nat} {m a : Nat → Int} (hp : p = 2 ∨ p = 3 ∨ p = 5 ∨ p = 7) (hm : monS d m) (ha : fin a) (hc : cpr p a m) (hN : N ∈ ML p d) :
 sg p d m a N ∈ ML p d ∧ ∃ c, ¬ (p : Int) ∣ c ∧ em p (lc p (rst p d m (mz a (dg p N)))) c ∧ rm p m (mz a (dg p N)) (cz c (dg p (sg p d m a N))) := by
 have h := turn_ex hp hm ha hc hN
 unfold sg
 rw [dif_pos h]
 exact h.choose_spec
theorem cz_cz (a b : Int) (f : Nat → Int) : cz a (cz b f) = cz (a * b) f := by funext k; unfold cz; rw [Int.mul_assoc]
theorem sz_az (f g : Nat → Int) : sz f g = az f (cz (-1) g) := by funext k; unfold sz az cz; omega
theorem rm_sub {p : Int} {m f g : Nat → Int} (h : rm p m f g) : rm p m (sz f g) zS := by
 obtain ⟨q, h1, h2⟩ := h
 refine ⟨q, h1, ?_⟩
 have : sz (sz f g) zS = sz f g := by funext k; unfold sz zS; omega
 rwa [this]
theorem sg_inj {p d N M : Nat} {m a : Nat → Int} (hp : p = 2 ∨ p = 3 ∨ p = 5 ∨ p = 7) (hm : monS d m) (ha : fin a) (hc : cpr p a m) (hN : N ∈ ML p d) (hM : M ∈ ML p d) (h : sg p d m a N = sg p d m a M) : N = M := by
 have p2 : 2 ≤ p := by omega
 obtain ⟨_, c, c0, _, c2⟩ := sg_ok hp hm ha hc hN
 obtain ⟨_, b, b0, _, b2⟩ := sg_ok hp hm ha hc hM
 rw [← h] at b2
 have h1 := rm_cz b c2
 have h2 := rm_cz c b2
 rw [cz_cz, ← cz_mz] at h1 h2
 rw [Int.mul_comm] at h2
 have h3 := rm_sub (rm_trans h1 (rm_symm h2))
 rw [mz_comm, mz_comm a, ← mz_sz, mz_comm] at h3
 have fx : fin (sz (cz b (dg p N)) (cz c (dg p M))) := by
  rw [sz_az]; exact fin_az (fin_cz _ (fin_dg _ p2)) (fin_cz _ (fin_cz _ (fin_dg _ p2)))
 have h4 := cpr_can hc ha fx h3
 have h5 := rm_low hm (fun k hk => by
  unfold sz cz
  exact Int.dvd_sub (Int.dvd_mul_of_dvd_right (dg_low p2 hN k hk)) (Int.dvd_mul_of_dvd_right (dg_low p2 hM k hk))) (fun k _ => ⟨0, by unfold zS; omega⟩) h4
 have h6 : cg p (cz b (dg p N)) (cz c (dg p M)) := fun k => by
  have := h5 k
  unfold sz zS at this
  rwa [Int.sub_zero] at this
 obtain ⟨i, hi, hNi⟩ := ML_mem.1 hN
 obtain ⟨j, hj, hMj⟩ := ML_mem.1 hM
 obtain ⟨e1, e2⟩ := ldc_un (ldc_cg h6 (ldc_cz hp b0 (ldc_mon hp (dg_mon p2 hNi)))) (ldc_cz hp c0 (ldc_mon hp (dg_mon p2 hMj)))
 subst e1
 rw [Int.mul_one, Int.mul_one] at e2
 refine dg_inj p2 hNi hMj fun k hk => ?_
 have h7 : em p (b * dg p N k) (c * dg p M k) := h6 k
 exact em_cancel hp b0 (em_trans h7 (em_mul (em_symm e2) (em_refl _ _)))
/-- the product of the leading coefficients -/
noncomputable def gs (p d : Nat) (m a : Nat → Int) : Int := pl (ML p d) fun N => lc p (rst p d m (mz a (dg p N)))
theorem gs_rm {p d : Nat} {m a b : Nat → Int} (hp : 2 ≤ p) (hm : monS d m) (ha : fin a) (hb : fin b) (h : rm p m a b) : em p (gs p d m a) (gs p d m b) := by
 refine pl_em _ fun N _ => lc_cg ?_
 have hf := fin_dg (p := p) N hp
 refine rst_un (by omega) hm (fin_mz ha hf) (fun k hk => by rw [(rst_ok (p := p) (by omega) hm (fin_mz hb hf)).2.1 k hk]; exact ⟨0, by omega⟩) ?_
 exact rm_trans (rm_mz hf h) (rst_ok (p := p) (by omega) hm (fin_mz hb hf)).2.2
/-- no rest is nothing -/
theorem rst_ldc {p d N : Nat} {m a : Nat → Int} (hp : p = 2 ∨ p = 3 ∨ p = 5 ∨ p = 7) (hm : monS d m) (ha : fin a) (hc : cpr p a m) (hN : N ∈ ML p d) : ∃ n c, ldc p (rst p d m (mz a (dg p N))) n c ∧ em p (lc p (rst p d m (mz a (dg p N)))) c := by
 have p2 : 2 ≤ p := by omega
 have hfn := fin_mz ha (fin_dg (p := p) N p2)
 obtain ⟨h1, c, c0, c1, c2⟩ := sg_ok hp hm ha hc hN
 obtain ⟨i, hi, hs⟩ := ML_mem.1 h1
 have hl := ldc_cz hp c0 (ldc_mon hp (dg_mon p2 hs))
 have h3 := rst_un (by omega) hm hfn (fun k hk => Int.dvd_mul_of_dvd_right (dg_low p2 h1 k hk)) c2
 exact ⟨i, _, ldc_cg (cg_symm h3) hl, lc_em (ldc_cg (cg_symm h3) hl)⟩
theorem gs_mul {p d : Nat} {m a b : Nat → Int} (hp : p = 2 ∨ p = 3 ∨ p = 5 ∨ p = 7) (hm : monS d m) (ha : fin a) (hb : fin b) (hca : cpr p a m) (hcb : cpr p b m) : em p (gs p d m (mz a b)) (gs p d m a * gs p d m b) := by
 have p2 : 2 ≤ p := by omega
 have e1 : em p (gs p d m (mz a b)) (pl (ML p d) fun N => lc p (rst p d m (mz a (dg p N))) * lc p (rst p d m (mz b (dg p (sg p d m a N))))) := by
  refine pl_em _ fun N hN => ?_
  obtain ⟨h1, c, c0, c1, c2⟩ := sg_ok hp hm ha hca hN
  obtain ⟨n, c', l1, l2⟩ := rst_ldc hp hm hb hcb h1
  have hf := fin_dg (p := p) N p2
  have hf' := fin_dg (p := p) (sg p d m a N) p2
  obtain ⟨_, r2, r3⟩ := rst_ok (p := p) (by omega) hm (fin_mz hb hf')
  have h3 : cg p (rst p d m (mz (mz a b) (dg p N))) (cz c (rst p d m (mz b (dg p (sg p d m a N))))) := by
   refine rst_un (by omega) hm (fin_mz (fin_mz ha hb) hf) (fun k hk => by unfold cz; rw [r2 k hk]; exact ⟨0, by omega⟩) ?_
   have h4 := rm_mz (g := b) hb c2
   rw [mz_cz, mz_comm (dg p (sg p d m a N))] at h4
   have h5 : mz (mz a (dg p N)) b = mz (mz a b) (dg p N) := by rw [mz_assoc, mz_comm (dg p N), ← mz_assoc]
   rw [h5] at h4
   exact rm_trans h4 (rm_cz c r3)
  refine em_trans (lc_em (ldc_cg (cg_symm h3) (ldc_cz hp c0 l1))) (em_mul (em_symm c1) (em_symm l2))
 rw [pl_mul] at e1
 refine em_trans e1 (em_mul (em_refl _ _) (em_of ?_))
 exact pl_turn (sg p d m a) (fun N => lc p (rst p d m (mz b (dg p N)))) (ML_nodup p2 d) (fun x y hx hy e => sg_inj hp hm ha hca hx hy e) (fun x hx => (sg_ok hp hm ha hca hx).1) (Nat.le_refl _)
theorem gs_scl {p d : Nat} {m a : Nat → Int} {l : Int} (hp : p = 2 ∨ p = 3 ∨ p = 5 ∨ p = 7) (hm : monS d m) (ha : fin a) (hca : cpr p a m) (hl : ¬ (p : Int) ∣ l) : em p (gs p d m (cz l a)) (l ^ (sn p d) * gs p d m a) := by
 have p2 : 2 ≤ p := by omega
 have e1 : em p (gs p d m (cz l a)) (pl (ML p d) fun N => l * lc p (rst p d m (mz a (dg p N)))) := by
  refine pl_em _ fun N hN => ?_
  obtain ⟨n, c', l1, l2⟩ := rst_ldc hp hm ha hca hN
  have hf := fin_dg (p := p) N p2
  obtain ⟨_, r2, r3⟩ := rst_ok (p := p) (by omega) hm (fin_mz ha hf)
  have h3 : cg p (rst p d m (mz (cz l a) (dg p N))) (cz l (rst p d m (mz a (dg p N)))) := by
   refine rst_un (by omega) hm (fin_mz (fin_cz _ ha) hf) (fun k hk => by unfold cz; rw [r2 k hk]; exact ⟨0, by omega⟩) ?_
   rw [mz_cz]
   exact rm_cz l r3
  exact em_trans (lc_em (ldc_cg (cg_symm h3) (ldc_cz hp hl l1))) (em_mul (em_refl _ _) (em_symm l2))
 rw [pl_mul, pl_const, ML_len] at e1
 exact e1
end Go.Proofs.Ytifdkepkedlmoaa
end
section
namespace Go.Proofs.Ytifdkepkedlmoaa
set_option linter.unusedVariables false
set_option linter.unusedSimpArgs false
/-- the product of all numbers but 0 -/
def wl (p : Nat) : Int := pl (List.range p) fun c => if c = 0 then 1 else (c : Int)
theorem wl_em {p : Nat} (hp : p = 2 ∨ p = 3 ∨ p = 5 ∨ p = 7) : em p (wl p) (-1) := by
 rcases hp with rfl | rfl | rfl | rfl
 · exact ⟨1, by decide⟩
 · exact ⟨1, by decide⟩
 · exact ⟨5, by decide⟩
 · exact ⟨103, by decide⟩
/-- the product of the leading coefficients of all of lesser degrees -/
theorem all_lc {p : Nat} (hp : p = 2 ∨ p = 3 ∨ p = 5 ∨ p = 7) : ∀ j, em p (pl (List.range (p ^ j)) fun H => lc p (dg p H)) ((-1) ^ (sn p j))
 | 0 => by
  rw [Nat.pow_zero, List.range_succ, List.range_zero, List.nil_append, pl_cons, pl_nil, Int.mul_one, sn, Int.pow_zero]
  rw [lc_zero (fun k => by unfold dg zS ofN dgt; simp)]
  exact em_refl _ _
 | j + 1 => by
  have p2 : 2 ≤ p := by omega
  have hq : 0 < p ^ j := Nat.pow_pos (by omega)
  rw [Nat.pow_succ, Nat.mul_comm, pl_range]
  have e1 : em p (pl (List.range p) fun c => pl (List.range (p ^ j)) fun x => lc p (dg p (c * p ^ j + x))) (pl (List.range p) fun c => (if c = 0 then ((-1 : Int) ^ (sn p j)) else 1) * (if c = 0 then 1 else (c : Int)) ^ (p ^ j)) := by
   refine pl_em _ fun c hc => ?_
   rw [List.mem_range] at hc
   by_cases h0 : c = 0
   · subst h0
     rw [if_pos rfl, if_pos rfl, Int.one_pow, Int.mul_one]
     have := all_lc hp j
     simpa using this
   · rw [if_neg h0, if_neg h0, Int.one_mul]
     have e2 : em p (pl (List.range (p ^ j)) fun x => lc p (dg p (c * p ^ j + x))) (pl (List.range (p ^ j)) fun _ => (c : Int)) := by
      refine pl_em _ fun x hx => ?_
      rw [List.mem_range] at hx
      refine lc_em (n := j) ⟨fun k hk => ?_, ?_, ?_⟩
      · rw [dg_big p2 (k := j + 1) ?_ hk]
        · exact ⟨0, by omega⟩
        · rw [Nat.pow_succ]
          have h1 : (c + 1) * p ^ j ≤ p * p ^ j := Nat.mul_le_mul_right _ (by omega)
          rw [Nat.add_mul, Nat.one_mul] at h1
          rw [Nat.mul_comm (p ^ j) p]
          omega
      · intro h
        obtain ⟨q, hq⟩ := h
        have h1 := dvd_small (p := (p : Int)) (x := (c : Int)) ⟨q, hq⟩ (by omega) (by omega)
        omega
      · refine em_of ?_
        unfold dg ofN dgt
        rw [Nat.mul_comm c, Nat.mul_add_div hq, Nat.div_eq_of_lt hx, Nat.add_zero, Nat.mod_eq_of_lt hc]
     rw [pl_const, List.length_range] at e2
     exact e2
  refine em_trans e1 ?_
  rw [pl_mul, pl_pow]
  have e3 : pl (List.range p) (fun c => if c = 0 then ((-1 : Int) ^ (sn p j)) else 1) = (-1) ^ (sn p j) := by
   obtain ⟨q, rfl⟩ : ∃ q, p = q + 1 := ⟨p - 1, by omega⟩
   rw [pl_first, if_pos rfl, show (fun x : Nat => if x + 1 = 0 then ((-1 : Int) ^ (sn (q + 1) j)) else 1) = fun _ => 1 by funext x; rw [if_neg (by omega)], pl_const, Int.one_pow, Int.mul_one]
  rw [e3, sn, Int.pow_add]
  refine em_mul (em_refl _ _) ?_
  have h := wl_em hp
  have pw : ∀ n : Nat, em p (wl p ^ n) ((-1) ^ n) := by
   intro n
   induction n with
   | zero => rw [Int.pow_zero, Int.pow_zero]; exact em_refl _ _
   | succ n ih => rw [Int.pow_succ, Int.pow_succ]; exact em_mul ih h
  exact pw (p ^ j)
theorem sz_fin {f g : Nat → Int} (hf : fin f) (hg : fin g) : fin (sz f g) := by rw [sz_az]; exact fin_az hf (fin_cz _ hg)
/-- one row: A of the degree j + d, against all P m, m monic of the degree j -/
theorem row_lc {p d j : Nat} {P A : Nat → Int} (hp : p = 2 ∨ p = 3 ∨ p = 5 ∨ p = 7) (hP : monS d P) (fP : fin P) (hA : ldc p A (j + d) 1) (fA : fin A) (hne : ∃ n c, ldc p (rst p d P A) n c) :
 em p (pl (monL p j) fun M => lc p (sz A (mz P (dg p M)))) (lc p (rst p d P A) * (-1) ^ (sn p j)) := by
 have p2 : 2 ≤ p := by omega
 obtain ⟨r1, r2, r3⟩ := rst_ok (p := p) (by omega) hP fA
 obtain ⟨r, hr⟩ : ∃ r, r = rst p d P A := ⟨_, rfl⟩
 rw [← hr] at r1 r2 r3 hne ⊢
 obtain ⟨q, fq, hq⟩ := r3
 -- the quotient is monic, of the degree j
 have hlead : ldc p (mz q P) (j + d) 1 := by
  refine ldc_cg hq ?_
  rw [sz_az]
  exact ldc_add hA (d := d) (fun k hk => by unfold cz; rw [r2 k hk]; exact ⟨0, by omega⟩) (by omega)
 have hqj : ldc p q j 1 := by
  obtain ⟨N, hN⟩ := fq
  rcases ldc_ex (p := (p : Int)) N q (fun k hk => by rw [hN k hk]; exact ⟨0, by omega⟩) with h0 | ⟨t, c, _, hl⟩
  · exfalso
    have h1 := cg_mz (g := P) h0
    rw [zS_mz] at h1
    have h2 := (ldc_cg h1 hlead).2
    exact ndvd_em (em_symm h2.2) h2.1 ⟨0, by unfold zS; omega⟩
  · have h1 := ldc_mz hp hl (ldc_mon hp hP)
    rw [Int.mul_one] at h1
    obtain ⟨e1, e2⟩ := ldc_un h1 hlead
    obtain rfl : t = j := by omega
    exact ldc_c e2 hl
 -- the number of q - m
 obtain ⟨τ, hτ⟩ : ∃ τ : Nat → Nat, τ = fun M => vl p (fun k => ((q k - dg p M k) % (p : Int)).toNat) j := ⟨_, rfl⟩
 have hFl : ∀ M k, ((q k - dg p M k) % (p : Int)).toNat < p := fun M k => by
  have h1 := Int.emod_lt_of_pos (q k - dg p M k) (show (0 : Int) < p by omega)
  have h2 := Int.emod_nonneg (q k - dg p M k) (show (p : Int) ≠ 0 by omega)
  omega
 have hτl : ∀ M, τ M < p ^ j := fun M => by rw [hτ]; exact vl_lt j _ (hFl M)
 have hτd : ∀ M, M ∈ monL p j → cg p (dg p (τ M)) (sz q (dg p M)) := fun M hM k => by
  by_cases hk : k < j
  · have h1 : dg p (τ M) k = (q k - dg p M k) % (p : Int) := by
     unfold dg
     rw [hτ]
     show ((ofN p (vl p (fun k => ((q k - dg p M k) % (p : Int)).toNat) j) k : Nat) : Int) = _
     rw [ofN_vl j _ (hFl M) k hk]
     exact Int.toNat_of_nonneg (Int.emod_nonneg _ (by omega))
    rw [h1]
    unfold sz
    have := Int.dvd_self_sub_emod (x := q k - dg p M k) (m := (p : Int))
    exact em_symm this
  · rw [dg_big p2 (hτl M) (by omega)]
    unfold sz
    have h1 := dg_mon p2 hM
    by_cases e : k = j
    · subst e
      rw [h1.1]
      have := hqj.2.2
      have h2 := Int.dvd_neg.2 this
      rwa [show -(q k - 1) = 0 - (q k - 1) by omega] at h2
    · rw [h1.2 k (by omega), Int.sub_zero, Int.zero_sub]
      exact Int.dvd_neg.2 (hqj.1 k (by omega))
 have hinj : ∀ x y, x ∈ monL p j → y ∈ monL p j → τ x = τ y → x = y := fun x y hx hy e => by
  refine dg_inj p2 hx hy fun k hk => ?_
  have h1 := hτd x hx k
  have h2 := hτd y hy k
  rw [← e] at h2
  have h3 := Int.dvd_sub h2 h1
  unfold sz at h3
  rwa [show dg p (τ x) k - (q k - dg p y k) - (dg p (τ x) k - (q k - dg p x k)) = dg p y k - dg p x k by omega, ← Int.dvd_neg, show -(dg p y k - dg p x k) = dg p x k - dg p y k by omega] at h3
 -- the rows' coefficients by the numbers
 obtain ⟨φ, hφ⟩ : ∃ φ : Nat → Int, φ = fun H => if H = 0 then lc p r else lc p (dg p H) := ⟨_, rfl⟩
 have hAM : ∀ M, cg p (sz A (mz P (dg p M))) (az (mz P (sz q (dg p M))) r) := fun M k => by
  have h1 := hq k
  have h2 : mz P (sz q (dg p M)) = sz (mz q P) (mz P (dg p M)) := by rw [mz_comm, mz_sz, mz_comm (dg p M)]
  rw [h2]
  unfold sz az at *
  rwa [show A k - mz P (dg p M) k - (mz q P k - mz P (dg p M) k + r k) = A k - r k - mz q P k by omega]
 have e1 : em p (pl (monL p j) fun M => lc p (sz A (mz P (dg p M)))) (pl (monL p j) fun M => φ (τ M)) := by
  refine pl_em _ fun M hM => ?_
  have h1 := hτd M hM
  have h2 : cg p (sz A (mz P (dg p M))) (az (mz P (dg p (τ M))) r) := by
   refine cg_trans (hAM M) (cg_az ?_ (cg_refl _ _))
   rw [mz_comm, mz_comm P]
   exact cg_mz (cg_symm h1)
  refine em_trans (lc_cg h2) ?_
  rw [hφ]
  show em p _ (if τ M = 0 then lc p r else lc p (dg p (τ M)))
  by_cases h0 : τ M = 0
  · rw [if_pos h0, h0]
    have h3 : dg p 0 = zS := by funext k; unfold dg zS ofN dgt; simp
    rw [h3, mz_zS, zS_az]
    exact em_refl _ _
  · rw [if_neg h0]
    rcases ldc_ex (p := (p : Int)) j (dg p (τ M)) (fun k hk => by rw [dg_big p2 (hτl M) hk]; exact ⟨0, by omega⟩) with hz | ⟨t, c, ht, hl⟩
    · exfalso
      apply h0
      have h4 := vl_ofN (p := p) (by omega) j (τ M) (hτl M)
      rw [← h4]
      have h5 : ∀ k, ofN p (τ M) k = 0 := fun k => by
       have h6 := hz k
       have h7 := dg_lt (p := p) (N := τ M) (by omega) k
       unfold zS at h6
       rw [Int.sub_zero] at h6
       have h8 := dvd_small h6 (by omega) h7.2
       unfold dg at h8
       omega
      rw [vl_congr (g := ofN p 0) j (fun k _ => by rw [h5 k]; unfold ofN dgt; simp)]
      exact vl_ofN (by omega) j 0 (Nat.pow_pos (by omega))
    · have h3 := ldc_mz hp (ldc_mon hp hP) hl
      rw [Int.one_mul] at h3
      have h4 := ldc_add (g := r) h3 (d := d) (fun k hk => by rw [r2 k hk]; exact ⟨0, by omega⟩) (by omega)
      exact em_trans (lc_em h4) (em_symm (lc_em hl))
 refine em_trans e1 ?_
 have hnd : (monL p j).Nodup := List.nodup_range'
 rw [pl_turn (k := List.range (p ^ j)) τ φ hnd hinj (fun M _ => List.mem_range.2 (hτl M)) (by unfold monL; simp)]
 have h2 := all_lc hp j
 obtain ⟨n, hn⟩ : ∃ n, p ^ j = n + 1 := ⟨p ^ j - 1, by have : 0 < p ^ j := Nat.pow_pos (by omega); omega⟩
 rw [hn, pl_first] at h2 ⊢
 have h3 : lc p (dg p 0) = 1 := lc_zero (fun k => by unfold dg zS ofN dgt; simp)
 rw [h3, Int.one_mul] at h2
 have h4 : φ 0 = lc p r := by rw [hφ]; rfl
 have h5 : (fun x => φ (x + 1)) = fun x => lc p (dg p (x + 1)) := by
  funext x; rw [hφ]; exact if_neg (by omega)
 rw [h4, h5]
 exact em_mul (em_refl _ _) h2
theorem sn_par {p : Nat} (hp : p % 2 = 1) : ∀ j, sn p j % 2 = j % 2
 | 0 => rfl
 | j + 1 => by
  have h1 := sn_par hp j
  have h2 : p ^ j % 2 = 1 := by rw [Nat.pow_mod, hp, Nat.one_pow]
  rw [sn]; omega
theorem sign_sq (a : Nat) : ((-1 : Int) ^ a) * (-1) ^ a = 1 := by
 rw [← Int.mul_pow]
 show ((1 : Int)) ^ a = 1
 exact Int.one_pow
theorem pl_ML (p : Nat) (f : Nat → Int) : ∀ d, pl (ML p d) f = pl (List.range d) (fun i => pl (monL p i) f)
 | 0 => rfl
 | d + 1 => by rw [ML, pl_append, pl_ML p f d, List.range_succ, pl_append, pl_cons, pl_nil, Int.mul_one]
theorem cpr_sym {p : Int} {a m : Nat → Int} (h : cpr p a m) : cpr p m a := by
 obtain ⟨u, v, hu, hv, e⟩ := h
 exact ⟨v, u, hv, hu, by rw [az_comm]; exact e⟩
theorem lc_neg {p : Nat} (hp : p = 2 ∨ p = 3 ∨ p = 5 ∨ p = 7) {f g : Nat → Int} (h : ∃ n c, ldc p (sz f g) n c) : em p (lc p (sz g f)) ((-1) * lc p (sz f g)) := by
 obtain ⟨n, c, hl⟩ := h
 have h1 : sz g f = cz (-1) (sz f g) := by funext k; show g k - f k = -1 * (f k - g k); omega
 have n1 : ¬ (p : Int) ∣ -1 := fun h => ndvd_one hp (by have := Int.dvd_neg.2 h; simpa using this)
 rw [h1]
 exact em_trans (lc_em (ldc_cz hp n1 hl)) (em_mul (em_refl _ _) (em_symm (lc_em hl)))
/-- the two rows of one pair of degrees -/
theorem pair_lc {p d e i j : Nat} {P Q : Nat → Int} (hp : p = 2 ∨ p = 3 ∨ p = 5 ∨ p = 7) (hP : monS d P) (hQ : monS e Q) (fP : fin P) (fQ : fin Q) (hc : cpr p Q P) (hi : i < d) (hj : j < e) (hij : i + e = j + d) :
 em p (pl (monL p j) fun M => lc p (rst p e Q (mz P (dg p M)))) ((-1) ^ (i + j + 1) * pl (monL p i) fun N => lc p (rst p d P (mz Q (dg p N)))) := by
 have p2 : 2 ≤ p := by omega
 have hcs := cpr_sym hc
 have lenL : ∀ n, (monL p n).length = p ^ n := fun n => by unfold monL; simp
 have hQn : ∀ N, N ∈ monL p i → ldc p (mz Q (dg p N)) (j + d) 1 := fun N hN => by
  have := ldc_mz hp (ldc_mon hp hQ) (ldc_mon hp (dg_mon p2 hN))
  rwa [Int.mul_one, show e + i = j + d by omega] at this
 have hPm : ∀ M, M ∈ monL p j → ldc p (mz P (dg p M)) (i + e) 1 := fun M hM => by
  have := ldc_mz hp (ldc_mon hp hP) (ldc_mon hp (dg_mon p2 hM))
  rwa [Int.mul_one, show d + j = i + e by omega] at this
 have r1 : ∀ N, N ∈ monL p i → ∃ n c, ldc p (rst p d P (mz Q (dg p N))) n c := fun N hN => by
  obtain ⟨n, c, h, _⟩ := rst_ldc hp hP fQ hc (ML_mem.2 ⟨i, hi, hN⟩); exact ⟨n, c, h⟩
 have r2 : ∀ M, M ∈ monL p j → ∃ n c, ldc p (rst p e Q (mz P (dg p M))) n c := fun M hM => by
  obtain ⟨n, c, h, _⟩ := rst_ldc hp hQ fP hcs (ML_mem.2 ⟨j, hj, hM⟩); exact ⟨n, c, h⟩
 -- Q n - P m is never nothing
 have hne : ∀ N M, N ∈ monL p i → M ∈ monL p j → ∃ n c, ldc p (sz (mz Q (dg p N)) (mz P (dg p M))) n c := fun N M hN hM => by
  obtain ⟨K, hK⟩ := sz_fin (fin_mz fQ (fin_dg (p := p) N p2)) (fin_mz fP (fin_dg (p := p) M p2))
  rcases ldc_ex (p := (p : Int)) K (sz (mz Q (dg p N)) (mz P (dg p M))) (fun k hk => by rw [hK k hk]; exact ⟨0, by omega⟩) with h0 | ⟨t, c, _, hl⟩
  · exfalso
    obtain ⟨n, c, hl⟩ := r1 N hN
    have h1 : rm p P (mz Q (dg p N)) zS := by
     have h2 : cg p (mz Q (dg p N)) (mz P (dg p M)) := fun k => by
      have := h0 k; unfold sz zS at this; rwa [Int.sub_zero] at this
     refine rm_trans (rm_of_cg h2) ?_
     rw [mz_comm]
     exact rm_zero (fin_dg M p2)
    have h3 := rst_un (by omega) hP (fin_mz fQ (fin_dg (p := p) N p2)) (fun k _ => ⟨0, by unfold zS; omega⟩) h1
    have h4 := (ldc_cg h3 hl).2
    exact ndvd_em (em_symm h4.2) h4.1 ⟨0, by unfold zS; omega⟩
  · exact ⟨t, c, hl⟩
 -- all pairs, in both orders
 have a1 : em p (pl (monL p i) fun N => pl (monL p j) fun M => lc p (sz (mz Q (dg p N)) (mz P (dg p M)))) ((pl (monL p i) fun N => lc p (rst p d P (mz Q (dg p N)))) * ((-1) ^ (sn p j)) ^ (p ^ i)) := by
  have h1 := pl_em (p := (p : Int)) (monL p i) (f := fun N => pl (monL p j) fun M => lc p (sz (mz Q (dg p N)) (mz P (dg p M)))) (g := fun N => lc p (rst p d P (mz Q (dg p N))) * (-1) ^ (sn p j))
   (fun N hN => row_lc hp hP fP (hQn N hN) (fin_mz fQ (fin_dg N p2)) (r1 N hN))
  rwa [pl_mul, pl_const, lenL] at h1
 have a2 : em p (pl (monL p j) fun M => pl (monL p i) fun N => lc p (sz (mz P (dg p M)) (mz Q (dg p N)))) ((pl (monL p j) fun M => lc p (rst p e Q (mz P (dg p M)))) * ((-1) ^ (sn p i)) ^ (p ^ j)) := by
  have h1 := pl_em (p := (p : Int)) (monL p j) (f := fun M => pl (monL p i) fun N => lc p (sz (mz P (dg p M)) (mz Q (dg p N)))) (g := fun M => lc p (rst p e Q (mz P (dg p M))) * (-1) ^ (sn p i))
   (fun M hM => row_lc hp hQ fQ (hPm M hM) (fin_mz fP (fin_dg M p2)) (r2 M hM))
  rwa [pl_mul, pl_const, lenL] at h1
 have a3 : em p (pl (monL p j) fun M => pl (monL p i) fun N => lc p (sz (mz P (dg p M)) (mz Q (dg p N)))) (((-1) ^ (p ^ i)) ^ (p ^ j) * pl (monL p i) fun N => pl (monL p j) fun M => lc p (sz (mz Q (dg p N)) (mz P (dg p M)))) := by
  have h1 : em p (pl (monL p j) fun M => pl (monL p i) fun N => lc p (sz (mz P (dg p M)) (mz Q (dg p N)))) (pl (monL p j) fun M => pl (monL p i) fun N => (-1) * lc p (sz (mz Q (dg p N)) (mz P (dg p M)))) :=
   pl_em _ fun M hM => pl_em _ fun N hN => lc_neg hp (hne N M hN hM)
  have h2 : (fun M => pl (monL p i) fun N => (-1) * lc p (sz (mz Q (dg p N)) (mz P (dg p M)))) = fun M => ((-1 : Int) ^ (p ^ i)) * pl (monL p i) fun N => lc p (sz (mz Q (dg p N)) (mz P (dg p M))) := by
   funext M; rw [pl_mul, pl_const, lenL]
  rw [h2, pl_mul, pl_const, lenL] at h1
  rwa [pl_swap (fun N M => lc p (sz (mz Q (dg p N)) (mz P (dg p M))))]
 -- the signs
 obtain ⟨X, hX⟩ : ∃ X, X = pl (monL p i) fun N => pl (monL p j) fun M => lc p (sz (mz Q (dg p N)) (mz P (dg p M))) := ⟨_, rfl⟩
 obtain ⟨Y, hY⟩ : ∃ Y, Y = pl (monL p j) fun M => pl (monL p i) fun N => lc p (sz (mz P (dg p M)) (mz Q (dg p N))) := ⟨_, rfl⟩
 obtain ⟨A, hA⟩ : ∃ A, A = pl (monL p i) fun N => lc p (rst p d P (mz Q (dg p N))) := ⟨_, rfl⟩
 obtain ⟨B, hB⟩ : ∃ B, B = pl (monL p j) fun M => lc p (rst p e Q (mz P (dg p M))) := ⟨_, rfl⟩
 rw [← hX, ← hA] at a1
 rw [← hY, ← hB] at a2
 rw [← hX, ← hY] at a3
 rw [← hA, ← hB]
 rw [← Int.pow_mul] at a1 a2 a3
 -- B = Y s2 = s3 X s2 = s3 s2 s1 A
 have b1 : em p B (Y * (-1) ^ (sn p i * p ^ j)) := by
  have h1 := em_mul (em_symm a2) (em_refl p ((-1) ^ (sn p i * p ^ j)))
  rw [Int.mul_assoc, sign_sq, Int.mul_one] at h1
  exact h1
 have b2 : em p B (((-1) ^ (p ^ i * p ^ j) * (A * (-1) ^ (sn p j * p ^ i))) * (-1) ^ (sn p i * p ^ j)) :=
  em_trans b1 (em_mul (em_trans a3 (em_mul (em_refl _ _) a1)) (em_refl _ _))
 refine em_trans b2 ?_
 have e1 : ((-1 : Int) ^ (p ^ i * p ^ j) * (A * (-1) ^ (sn p j * p ^ i))) * (-1) ^ (sn p i * p ^ j) = (-1) ^ (p ^ i * p ^ j + sn p j * p ^ i + sn p i * p ^ j) * A := by
  rw [Int.pow_add, Int.pow_add, Int.mul_comm A, ← Int.mul_assoc, Int.mul_assoc _ A, Int.mul_comm A, ← Int.mul_assoc]
 rw [e1]
 refine em_mul (em_sign ?_) (em_refl _ _)
 by_cases h2 : p = 2
 · left; rw [h2]; rfl
 · right
   have ho : p % 2 = 1 := by omega
   have q1 : p ^ i % 2 = 1 := by rw [Nat.pow_mod, ho, Nat.one_pow]
   have q2 : p ^ j % 2 = 1 := by rw [Nat.pow_mod, ho, Nat.one_pow]
   have s1 := sn_par ho i
   have s2 := sn_par ho j
   have m1 : (p ^ i * p ^ j) % 2 = 1 := by rw [Nat.mul_mod, q1, q2]
   have m2 : (sn p j * p ^ i) % 2 = j % 2 := by rw [Nat.mul_mod, q1, s2, Nat.mul_one, Nat.mod_mod]
   have m3 : (sn p i * p ^ j) % 2 = i % 2 := by rw [Nat.mul_mod, q2, s1, Nat.mul_one, Nat.mod_mod]
   omega
/-- low degrees add nothing -/
theorem low_lc {p d e j : Nat} {P Q : Nat → Int} (hp : p = 2 ∨ p = 3 ∨ p = 5 ∨ p = 7) (hP : monS d P) (hQ : monS e Q) (fP : fin P) (hj : j + d < e) : em p (pl (monL p j) fun M => lc p (rst p e Q (mz P (dg p M)))) 1 := by
 have p2 : 2 ≤ p := by omega
 have h1 : em p (pl (monL p j) fun M => lc p (rst p e Q (mz P (dg p M)))) (pl (monL p j) fun _ => 1) := by
  refine pl_em _ fun M hM => ?_
  have hl := ldc_mz hp (ldc_mon hp hP) (ldc_mon hp (dg_mon p2 hM))
  rw [Int.mul_one] at hl
  have h2 := rst_un (p := p) (by omega) hQ (fin_mz fP (fin_dg M p2)) (fun k hk => hl.1 k (by omega)) (rm_refl _ _ _)
  exact lc_em (ldc_cg (cg_symm h2) hl)
 rw [pl_const, Int.one_pow] at h1
 exact h1
theorem recip_le {p d e : Nat} {P Q : Nat → Int} (hp : p = 2 ∨ p = 3 ∨ p = 5 ∨ p = 7) (hP : monS d P) (hQ : monS e Q) (fP : fin P) (fQ : fin Q) (hc : cpr p Q P) (hde : d ≤ e) :
 em p (gs p e Q P) ((-1) ^ (d * e) * gs p d P Q) := by
 unfold gs
 rw [pl_ML, pl_ML]
 have h1 : List.range e = List.range (e - d) ++ (List.range d).map (fun i => e - d + i) := by rw [← List.range_add]; congr 1; omega
 rw [h1, pl_append, pl_map]
 have a1 : em p (pl (List.range (e - d)) fun j => pl (monL p j) fun M => lc p (rst p e Q (mz P (dg p M)))) 1 := by
  have h2 := pl_em (p := (p : Int)) (List.range (e - d)) (f := fun j => pl (monL p j) fun M => lc p (rst p e Q (mz P (dg p M)))) (g := fun _ => 1) (fun j hj => low_lc hp hP hQ fP (by rw [List.mem_range] at hj; omega))
  rw [pl_const, Int.one_pow] at h2
  exact h2
 have a2 : em p (pl (List.range d) fun i => pl (monL p (e - d + i)) fun M => lc p (rst p e Q (mz P (dg p M)))) (pl (List.range d) fun i => (-1) ^ (e - d + 1) * pl (monL p i) fun N => lc p (rst p d P (mz Q (dg p N)))) := by
  refine pl_em _ fun i hi => ?_
  rw [List.mem_range] at hi
  refine em_trans (pair_lc hp hP hQ fP fQ hc hi (by omega) (by omega)) (em_mul (em_sign ?_) (em_refl _ _))
  right; omega
 rw [pl_mul, pl_const, List.length_range, ← Int.pow_mul] at a2
 have a3 := em_mul a1 a2
 rw [Int.one_mul] at a3
 refine em_trans a3 (em_mul (em_sign ?_) (em_refl _ _))
 right
 obtain ⟨c, rfl⟩ : ∃ c, e = d + c := ⟨e - d, by omega⟩
 rw [show d + c - d + 1 = c + 1 by omega, Nat.add_mul, Nat.one_mul, Nat.mul_add, Nat.mul_comm c d]
 have h3 : d * d % 2 = d % 2 := by
  rcases Nat.mod_two_eq_zero_or_one d with h | h <;> rw [Nat.mul_mod, h]
 omega
/-- reciprocity -/
theorem recip {p d e : Nat} {P Q : Nat → Int} (hp : p = 2 ∨ p = 3 ∨ p = 5 ∨ p = 7) (hP : monS d P) (hQ : monS e Q) (fP : fin P) (fQ : fin Q) (hc : cpr p Q P) :
 em p (gs p e Q P) ((-1) ^ (d * e) * gs p d P Q) := by
 by_cases h : d ≤ e
 · exact recip_le hp hP hQ fP fQ hc h
 · have h1 := recip_le hp hQ hP fQ fP (cpr_sym hc) (by omega)
   have h2 := em_mul (em_refl p ((-1) ^ (d * e))) h1
   rw [Nat.mul_comm e d, ← Int.mul_assoc, sign_sq, Int.one_mul] at h2
   exact em_symm h2
end Go.Proofs.Ytifdkepkedlmoaa
end
section
namespace Go.Proofs.Ytifdkepkedlmoaa
open Rg
set_option linter.unusedVariables false
set_option linter.unusedSimpArgs false
-- powers of numbers
theorem fermat {p : Nat} (hp : p = 2 ∨ p = 3 ∨ p = 5 ∨ p = 7) (c : Int) : em p (c ^ p) c := by
 have h1 : em p c (c % p) := by
  have := Int.dvd_self_sub_emod (x := c) (m := (p : Int)); exact this
 have a1 := Int.emod_nonneg c (show (p : Int) ≠ 0 by omega)
 have a2 := Int.emod_lt_of_pos c (show (0 : Int) < p by omega)
 obtain ⟨X, hX⟩ : ∃ X, X = c % (p : Int) := ⟨_, rfl⟩
 rw [← hX] at h1 a1 a2
 have pw : ∀ n : Nat, em p (c ^ n) (X ^ n) := by
  intro n
  induction n with
  | zero => rw [Int.pow_zero, Int.pow_zero]; exact em_refl _ _
  | succ n ih => rw [Int.pow_succ, Int.pow_succ]; exact em_mul ih h1
 refine em_trans (pw p) (em_trans ?_ (em_symm h1))
 rcases hp with rfl | rfl | rfl | rfl
 · have : X = 0 ∨ X = 1 := by omega
   rcases this with rfl | rfl <;> exact ⟨_, (by decide : _ = (2 : Int) * 0)⟩
 · have : X = 0 ∨ X = 1 ∨ X = 2 := by omega
   rcases this with rfl | rfl | rfl
   · exact ⟨0, by decide⟩
   · exact ⟨0, by decide⟩
   · exact ⟨2, by decide⟩
 · have : X = 0 ∨ X = 1 ∨ X = 2 ∨ X = 3 ∨ X = 4 := by omega
   rcases this with rfl | rfl | rfl | rfl | rfl
   · exact ⟨0, by decide⟩
   · exact ⟨0, by decide⟩
   · exact ⟨6, by decide⟩
   · exact ⟨48, by decide⟩
   · exact ⟨204, by decide⟩
 · have : X = 0 ∨ X = 1 ∨ X = 2 ∨ X = 3 ∨ X = 4 ∨ X = 5 ∨ X = 6 := by omega
   rcases this with rfl | rfl | rfl | rfl | rfl | rfl | rfl
   · exact ⟨0, by decide⟩
   · exact ⟨0, by decide⟩
   · exact ⟨18, by decide⟩
   · exact ⟨312, by decide⟩
   · exact ⟨2340, by decide⟩
   · exact ⟨11160, by decide⟩
   · exact ⟨39990, by decide⟩
theorem em_pow {p a b : Int} (h : em p a b) : ∀ n : Nat, em p (a ^ n) (b ^ n)
 | 0 => by rw [Int.pow_zero, Int.pow_zero]; exact em_refl _ _
 | n + 1 => by rw [Int.pow_succ, Int.pow_succ]; exact em_mul (em_pow h n) h
theorem fermat_i {p : Nat} (hp : p = 2 ∨ p = 3 ∨ p = 5 ∨ p = 7) (c : Int) : ∀ i, em p (c ^ (p ^ i)) c
 | 0 => by rw [Nat.pow_zero, Int.pow_succ, Int.pow_zero, Int.one_mul]; exact em_refl _ _
 | i + 1 => by
  rw [Nat.pow_succ, Int.pow_mul]
  exact em_trans (em_pow (fermat_i hp c i) p) (fermat hp c)
theorem pow_sn {p : Nat} (hp : p = 2 ∨ p = 3 ∨ p = 5 ∨ p = 7) (c : Int) : ∀ d, em p (c ^ (sn p d)) (c ^ d)
 | 0 => em_refl _ _
 | d + 1 => by rw [sn, Int.pow_add, Int.pow_succ]; exact em_mul (pow_sn hp c d) (fermat_i hp c d)
-- products of elements of a ring
section
variable {R : Type} [Rg R]
def rl (l : List Nat) (f : Nat → R) : R := l.foldr (fun x a => f x * a) Rg.e
theorem rl_cons (x : Nat) (l : List Nat) (f : Nat → R) : rl (x :: l) f = f x * rl l f := rfl
theorem rl_mul (f g : Nat → R) : ∀ l : List Nat, rl l (fun x => f x * g x) = rl l f * rl l g
 | [] => (emul _).symm
 | x :: l => by rw [rl_cons, rl_cons, rl_cons, rl_mul f g l, massoc, massoc, mlcomm (g x)]
theorem rl_eq {f g : Nat → R} : ∀ l : List Nat, (∀ x, x ∈ l → f x = g x) → rl l f = rl l g
 | [], _ => rfl
 | x :: l, h => by rw [rl_cons, rl_cons, h x (by simp), rl_eq l fun y hy => h y (by simp [hy])]
theorem rl_const (c : R) : ∀ l : List Nat, rl l (fun _ => c) = pw c l.length
 | [] => rfl
 | x :: l => by rw [rl_cons, rl_const c l, List.length_cons]; rfl
theorem rl_map (σ : Nat → Nat) (f : Nat → R) : ∀ l : List Nat, rl (l.map σ) f = rl l (fun x => f (σ x))
 | [] => rfl
 | x :: l => by rw [List.map_cons, rl_cons, rl_cons, rl_map σ f l]
theorem rl_perm {l k : List Nat} (h : l.Perm k) (f : Nat → R) : rl l f = rl k f := by
 induction h with
 | nil => rfl
 | cons x _ ih => rw [rl_cons, rl_cons, ih]
 | swap x y l => rw [rl_cons, rl_cons, rl_cons, rl_cons, mlcomm]
 | trans _ _ h1 h2 => rw [h1, h2]
theorem rl_turn {l k : List Nat} (σ : Nat → Nat) (f : Nat → R) (hl : l.Nodup) (hi : ∀ x y, x ∈ l → y ∈ l → σ x = σ y → x = y) (hs : ∀ x, x ∈ l → σ x ∈ k) (h : k.length ≤ l.length) : rl l (fun x => f (σ x)) = rl k f := by
 rw [← rl_map]
 refine rl_perm (perm_of _ _ ?_ ?_ (by rw [List.length_map]; exact h)) f
 · rw [List.nodup_iff_pairwise_ne, List.pairwise_map]
   rw [List.nodup_iff_pairwise_ne] at hl
   refine List.Pairwise.imp_of_mem ?_ hl
   intro a b ha hb hab e
   exact hab (hi a b ha hb e)
 · intro x hx
   obtain ⟨y, hy, rfl⟩ := List.mem_map.1 hx
   exact hs y hy
theorem rl_ne (dom : ∀ a b : R, a * b = Rg.o → a = Rg.o ∨ b = Rg.o) (hne : (Rg.e : R) ≠ Rg.o) {f : Nat → R} : ∀ l : List Nat, (∀ x, x ∈ l → f x ≠ Rg.o) → rl l f ≠ Rg.o
 | [], _ => hne
 | x :: l, h => fun e => (dom _ _ e).elim (h x (by simp)) (rl_ne dom hne l fun y hy => h y (by simp [hy]))
end
-- numbers as classes
theorem fin_k (c : Int) : fin (cz c oneS) := fin_cz _ fin_oneS
theorem k_mul (c b : Int) : mz (cz c oneS) (cz b oneS) = cz (c * b) oneS := by rw [mz_cz, one_mz, cz_cz]
theorem k_mz (c : Int) (f : Nat → Int) : mz (cz c oneS) f = cz c f := by rw [mz_cz, one_mz]
theorem rl_k {p : Int} {m : Nat → Int} (f : Nat → Int) : ∀ l : List Nat, rl l (fun x => (cl (cz (f x) oneS) (fin_k _) : Res p m)) = cl (cz (pl l f) oneS) (fin_k _)
 | [] => cl_congr (by rw [pl_nil]; funext k; unfold cz; rw [Int.one_mul])
 | x :: l => by
  rw [rl_cons, rl_k f l]
  exact cl_congr (by rw [k_mul, pl_cons])
/-- modulo an irreducible one the power is the product of the leading coefficients -/
theorem gauss {p d : Nat} {m a : Nat → Int} (hp : p = 2 ∨ p = 3 ∨ p = 5 ∨ p = 7) (hm : monS d m) (hd : 1 ≤ d) (hE : euclS p m) (ha : fin a) (hc : cpr p a m) : rm p m (pwz a (sn p d)) (cz (gs p d m a) oneS) := by
 have p2 : 2 ≤ p := by omega
 have dom : ∀ x y : Res (p : Int) m, x * y = Rg.o → x = Rg.o ∨ y = Rg.o := by
  intro x y h
  induction x using res_ind with | h f hf => induction y using res_ind with | h g hg =>
  have h1 := cl_eq.1 (show (cl (mz f g) (fin_mz hf hg) : Res (p : Int) m) = cl zS fin_zS from h)
  rcases hE f g hf hg h1 with h2 | h2
  · left; exact cl_eq.2 h2
  · right; exact cl_eq.2 h2
 have low0 : ∀ N, N ∈ ML p d → ¬ rm p m (dg p N) zS := fun N hN h => by
  have h2 := rm_low hm (dg_low p2 hN) (fun k _ => ⟨0, by unfold zS; omega⟩) h
  obtain ⟨i, hi, hNi⟩ := ML_mem.1 hN
  have h3 := (ldc_cg h2 (ldc_mon hp (dg_mon p2 hNi))).2
  exact ndvd_em (em_symm h3.2) h3.1 ⟨0, by unfold zS; omega⟩
 have hne : (Rg.e : Res (p : Int) m) ≠ Rg.o := fun h => by
  have h1 := cl_eq.1 (show (cl oneS fin_oneS : Res (p : Int) m) = cl zS fin_zS from h)
  have h2 := rm_low (d := d) hm (fun k hk => by unfold oneS; rw [if_neg (by omega)]; exact ⟨0, by omega⟩) (fun k _ => ⟨0, by unfold zS; omega⟩) h1
  have h3 := h2 0
  unfold oneS zS at h3
  rw [if_pos rfl, Int.sub_zero] at h3
  exact ndvd_one hp h3
 obtain ⟨ν, hν⟩ : ∃ ν : Nat → Res (p : Int) m, ν = fun N => cl (dg p N) (fin_dg N p2) := ⟨_, rfl⟩
 obtain ⟨α, hα⟩ : ∃ α : Res (p : Int) m, α = cl a ha := ⟨_, rfl⟩
 obtain ⟨c, hcd⟩ : ∃ c : Nat → Int, c = fun N => lc p (rst p d m (mz a (dg p N))) := ⟨_, rfl⟩
 obtain ⟨κ, hκ⟩ : ∃ κ : Nat → Res (p : Int) m, κ = fun N => cl (cz (c N) oneS) (fin_k _) := ⟨_, rfl⟩
 have e1 : rl (ML p d) (fun N => α * ν N) = rl (ML p d) (fun N => κ N * ν (sg p d m a N)) := by
  refine rl_eq _ fun N hN => ?_
  obtain ⟨h1, b, b0, b1, b2⟩ := sg_ok hp hm ha hc hN
  rw [hα, hν, hκ]
  refine cl_eq.2 (rm_trans b2 (rm_of_cg ?_))
  rw [k_mz, hcd]
  intro k
  have h3 := em_mul (em_symm b1) (em_refl p (dg p (sg p d m a N) k))
  exact h3
 rw [rl_mul, rl_mul, rl_const, ML_len] at e1
 have e2 : rl (ML p d) (fun N => ν (sg p d m a N)) = rl (ML p d) ν :=
  rl_turn (sg p d m a) ν (ML_nodup p2 d) (fun x y hx hy e => sg_inj hp hm ha hc hx hy e) (fun x hx => (sg_ok hp hm ha hc hx).1) (Nat.le_refl _)
 rw [e2] at e1
 have e3 : rl (ML p d) κ = (cl (cz (gs p d m a) oneS) (fin_k _) : Res (p : Int) m) := by
  rw [hκ]
  have := rl_k (p := (p : Int)) (m := m) c (ML p d)
  rw [this, hcd]
  rfl
 have hX : rl (ML p d) ν ≠ Rg.o := rl_ne dom hne _ fun N hN h => by
  rw [hν] at h
  exact low0 N hN (cl_eq.1 (show (cl (dg p N) (fin_dg N p2) : Res (p : Int) m) = cl zS fin_zS from h))
 rw [e3] at e1
 obtain ⟨δ, hδ⟩ := diff (pw α (sn p d)) (cl (cz (gs p d m a) oneS) (fin_k _) : Res (p : Int) m)
 rw [hδ, addm] at e1
 have e4 : δ * rl (ML p d) ν = Rg.o := by
  refine cancel (a := (cl (cz (gs p d m a) oneS) (fin_k _) : Res (p : Int) m) * rl (ML p d) ν) ?_
  rw [e1, addo]
 have e5 := (dom _ _ e4).resolve_right hX
 rw [e5, addo, hα, pw_cl] at hδ
 exact cl_eq.1 hδ
-- common divisors
theorem cpr_rm {p : Int} {m a b : Nat → Int} (ha : fin a) (h : rm p m a b) (hc : cpr p a m) : cpr p b m := by
 obtain ⟨u, v, hu, hv, e⟩ := hc
 obtain ⟨q, hq, hs⟩ := h
 refine ⟨u, az v (mz u q), hu, fin_az hv (fin_mz hu hq), cg_trans ?_ e⟩
 rw [mz_az, mz_assoc u q m, ← az_assoc, az_comm (mz u b), az_assoc]
 rw [az_comm (mz u a)]
 refine cg_az (cg_refl _ _) ?_
 rw [← mz_az2]
 rw [mz_comm, mz_comm u a]
 refine cg_mz ?_
 intro k
 have := hs k
 unfold az sz at *
 have h2 := Int.dvd_neg.2 this
 rwa [show -(a k - b k - mz q m k) = b k + mz q m k - a k by omega] at h2
theorem cpr_scl {p : Int} {m a : Nat → Int} {c : Int} (hc : cpr p (cz c a) m) : cpr p a m := by
 obtain ⟨u, v, hu, hv, e⟩ := hc
 refine ⟨cz c u, v, fin_cz _ hu, hv, ?_⟩
 rwa [mz_cz, ← cz_mz]
theorem cpr_left {p : Int} {m n a : Nat → Int} (hm : fin m) (hc : cpr p a (mz n m)) : cpr p a n := by
 obtain ⟨u, v, hu, hv, e⟩ := hc
 refine ⟨u, mz v m, hu, fin_mz hv hm, ?_⟩
 rwa [mz_assoc, mz_comm m n]
theorem mz_lcomm (f g h : Nat → Int) : mz f (mz g h) = mz g (mz f h) := by rw [← mz_assoc, mz_comm f g, mz_assoc]
theorem cpr_mul {p : Int} {m n a : Nat → Int} (fm : fin m) (fn : fin n) (h1 : cpr p a n) (h2 : cpr p a m) : cpr p a (mz n m) := by
 obtain ⟨u, v, hu, hv, e⟩ := h1
 obtain ⟨s, t, hs, ht, f⟩ := h2
 refine ⟨az u (mz (mz v n) s), mz v t, fin_az hu (fin_mz (fin_mz hv fn) hs), fin_mz hv ht, cg_trans ?_ e⟩
 rw [mz_az, az_assoc]
 refine cg_az (cg_refl _ _) ?_
 have h3 : az (mz (mz (mz v n) s) a) (mz (mz v t) (mz n m)) = mz (mz v n) (az (mz s a) (mz t m)) := by
  rw [mz_az2, mz_assoc (mz v n) s a, mz_assoc v n (mz t m), mz_lcomm n t m, ← mz_assoc v t]
 rw [h3, mz_comm]
 have h4 := cg_mz (g := mz v n) f
 rw [one_mz] at h4
 exact h4
theorem monS_mz {d e : Nat} {f g : Nat → Int} (hf : monS d f) (hg : monS e g) : monS (d + e) (mz f g) := by
 have key : ∀ k, (∀ i, i ≤ k → ¬ (i = d ∧ k - i = e) → i > d ∨ k - i > e) → mz f g k = if k = d + e then 1 else 0 := by
  intro k hk
  unfold mz
  by_cases h : k = d + e
  · rw [if_pos h]
    subst h
    have h1 : cs (d + e + 1) (fun i => f i * g (d + e - i)) = cs (d + e + 1) (fun i => if i = d then 1 else 0) := by
     refine cs_congr _ fun i hi => ?_
     by_cases h2 : i = d
     · subst h2; rw [if_pos rfl, hf.1, show i + e - i = e by omega, hg.1]; rfl
     · rw [if_neg h2]
       by_cases h3 : d < i
       · rw [hf.2 i h3, Int.zero_mul]
       · rw [hg.2 (d + e - i) (by omega), Int.mul_zero]
    rw [h1]
    have h2 : ∀ n, cs (d + 1 + n) (fun i => if i = d then (1 : Int) else 0) = 1 := by
     intro n
     rw [cs_more (d + 1) n (fun i hi _ => if_neg (by omega)), cs_s, cs_zero d (fun i hi => if_neg (by omega)), if_pos rfl]
     rfl
    rw [show d + e + 1 = d + 1 + e by omega, h2]
  · rw [if_neg h]
    refine cs_zero _ fun i hi => ?_
    rcases hk i (by omega) (fun h2 => h (by omega)) with h3 | h3
    · rw [hf.2 i h3, Int.zero_mul]
    · rw [hg.2 (k - i) h3, Int.mul_zero]
 refine ⟨?_, fun k hk => ?_⟩
 · rw [key (d + e) (fun i _ h => by omega), if_pos rfl]
 · rw [key k (fun i _ h => by omega), if_neg (by omega)]
theorem rm_left {p : Int} {m n a b : Nat → Int} (hm : fin m) (h : rm p (mz n m) a b) : rm p n a b := by
 obtain ⟨q, hq, e⟩ := h
 exact ⟨mz q m, fin_mz hq hm, by rwa [mz_assoc, mz_comm m n]⟩
theorem gs_zero (p : Nat) (m a : Nat → Int) : gs p 0 m a = 1 := rfl
/-- the modulus in two -/
theorem gs_two {p d e : Nat} {m n a : Nat → Int} (hp : p = 2 ∨ p = 3 ∨ p = 5 ∨ p = 7) (hn : monS d n) (hm : monS e m) (fn : fin n) (fm : fin m) (ha : fin a) (hc : cpr p a (mz n m)) :
 em p (gs p (d + e) (mz n m) a) (gs p d n a * gs p e m a) := by
 have p2 : 2 ≤ p := by omega
 have hnm := monS_mz hn hm
 have fnm := fin_mz fn fm
 have c1 : cpr p a n := cpr_left fm hc
 have c2 : cpr p a m := cpr_left fn (by rw [mz_comm]; exact hc)
 by_cases h0 : d + e = 0
 · obtain rfl : d = 0 := by omega
   obtain rfl : e = 0 := by omega
   rw [gs_zero, gs_zero, gs_zero]; exact em_refl _ _
 · -- a is a number times a monic one
   have one1 : 1 ∈ ML p (d + e) := ML_mem.2 ⟨0, by omega, by rw [monL_mem]; simp⟩
   have dg1 : dg p 1 = oneS := by
    funext k
    unfold dg oneS ofN dgt
    by_cases hk : k = 0
    · rw [if_pos hk, hk, Nat.pow_zero, Nat.div_one, Nat.mod_eq_of_lt (by omega)]; rfl
    · rw [if_neg hk]
      have h1 : 1 < p ^ k := Nat.one_lt_pow hk (by omega)
      rw [Nat.div_eq_of_lt h1]; simp
   obtain ⟨N, hN, c, hc0, _, hr⟩ := turn_ex hp hnm ha hc one1
   rw [dg1, mz_comm a, one_mz] at hr
   obtain ⟨t, ht, hNt⟩ := ML_mem.1 hN
   obtain ⟨R, hR⟩ : ∃ R, R = dg p N := ⟨_, rfl⟩
   have mR : monS t R := by rw [hR]; exact dg_mon p2 hNt
   have fR : fin R := by rw [hR]; exact fin_dg N p2
   rw [← hR] at hr
   have r1 := rm_left fm hr
   have r2 : rm p m a (cz c R) := rm_left (n := m) (m := n) fn (by rw [mz_comm]; exact hr)
   have cR : cpr p R (mz n m) := cpr_scl (cpr_rm ha hr hc)
   have cR1 : cpr p R n := cpr_left fm cR
   have cR2 : cpr p R m := cpr_left fn (by rw [mz_comm]; exact cR)
   have a0 := em_trans (gs_rm p2 hnm ha (fin_cz c fR) hr) (gs_scl hp hnm fR cR hc0)
   have a1 := em_trans (gs_rm p2 hn ha (fin_cz c fR) r1) (gs_scl hp hn fR cR1 hc0)
   have a2 := em_trans (gs_rm p2 hm ha (fin_cz c fR) r2) (gs_scl hp hm fR cR2 hc0)
   -- for the monic one by reciprocity
   have b0 := recip hp mR hnm fR fnm (cpr_sym cR)
   have b1 := recip hp hn mR fn fR cR1
   have b2 := recip hp hm mR fm fR cR2
   have b3 := gs_mul hp mR fn fm (cpr_sym cR1) (cpr_sym cR2)
   have b4 : em p (gs p (d + e) (mz n m) R) (gs p d n R * gs p e m R) := by
    refine em_trans b0 (em_trans (em_mul (em_refl _ _) (em_trans b3 (em_mul b1 b2))) (em_of ?_))
    obtain ⟨x, hx⟩ : ∃ x, x = gs p d n R := ⟨_, rfl⟩
    obtain ⟨y, hy⟩ : ∃ y, y = gs p e m R := ⟨_, rfl⟩
    rw [← hx, ← hy]
    rw [Nat.mul_add, Int.pow_add, Nat.mul_comm d t, Nat.mul_comm e t]
    obtain ⟨s, hs⟩ : ∃ s, s = (-1 : Int) ^ (t * d) := ⟨_, rfl⟩
    obtain ⟨r, hr⟩ : ∃ r, r = (-1 : Int) ^ (t * e) := ⟨_, rfl⟩
    have s2 : s * s = 1 := by rw [hs]; exact sign_sq _
    have r2 : r * r = 1 := by rw [hr]; exact sign_sq _
    rw [← hs, ← hr]
    have e9 : s * r * (s * x * (r * y)) = (s * s) * (r * r) * (x * y) := by
     rw [Int.mul_assoc s x, ← Int.mul_assoc x r y, Int.mul_comm x r, Int.mul_assoc r x y, ← Int.mul_assoc s r, ← Int.mul_assoc (s * r), Int.mul_assoc s r, Int.mul_comm r (s * r), Int.mul_assoc s r r, ← Int.mul_assoc s s]
    rw [e9, s2, r2, Int.one_mul, Int.one_mul]
   refine em_trans a0 (em_trans (em_mul (em_refl _ _) b4) (em_symm (em_trans (em_mul a1 a2) ?_)))
   obtain ⟨x, hx⟩ : ∃ x, x = gs p d n R := ⟨_, rfl⟩
   obtain ⟨y, hy⟩ : ∃ y, y = gs p e m R := ⟨_, rfl⟩
   rw [← hx, ← hy]
   have h5 : em p (c ^ sn p (d + e)) (c ^ sn p d * c ^ sn p e) :=
    em_trans (pow_sn hp c (d + e)) (em_trans (em_of (Int.pow_add c d e)) (em_mul (em_symm (pow_sn hp c d)) (em_symm (pow_sn hp c e))))
   refine em_trans (em_of ?_) (em_mul (em_symm h5) (em_refl _ (x * y)))
   rw [Int.mul_assoc, ← Int.mul_assoc x, Int.mul_comm x, Int.mul_assoc _ x, ← Int.mul_assoc]
end Go.Proofs.Ytifdkepkedlmoaa
end
section
namespace Go.Proofs.Ytifdkepkedlmoaa
open Go Go.RowKit
section
variable {P : Program} {Q : Exit → Act → World → Prop}
theorem wp_region_psi0 {ops : Array Oper} {id : Nat} {a0 : Act} {w : World} (hm : P.follows .mixedOrders = true) (hd : dstsOkL ops.toList = true) (he : edgesOk ops = true)
 (Ψ : (Nat → Bool) → (Nat → Value) → World → Prop) (h0 : ∀ v, (∀ i, v i = ((ops[i]?.bind (·.dst)).map fun t => a0.tmps.getD t undef).getD undef) → Ψ (fun _ => false) v w.drew)
 (hstep : ∀ i o, ops[i]? = some o → StepOk P ops Q a0 Ψ i o)
 (hend : ∀ L v w, (∀ i, i < ops.size → L i = true) → Ψ L v w → Q .normal (fr a0 ops v) w) : (Code.region id ops true).wp P Q a0 w := by
 refine wp_region_any hm ?_
 have hfr : fr a0 ops (fun i => ((ops[i]?.bind (·.dst)).map fun t => a0.tmps.getD t undef).getD undef) = a0 := by
  refine frL_start _ _ _ _ fun i o ho => ?_
  have ho' : ops[i]? = some o := by simpa using ho
  simp [ho']
 have key := wpAny_inv (P := P) (Q := Q) hd he hstep hend ops.size (Array.replicate ops.size false) (fun i => ((ops[i]?.bind (·.dst)).map fun t => a0.tmps.getD t undef).getD undef) w.drew (by simp) (by simp) (by
  have e : (fun j => (Array.replicate ops.size false).getD j false) = fun _ => false := by
   funext j; simp [Array.getD]
  rw [e]; exact h0 _ (fun _ => rfl)) (by
  intro j p _ hj
  simp [Array.getD] at hj)
 rw [hfr] at key
 exact key
theorem zq {os : List Oper} {id : Nat} {a0 : Act} {w : World} (hm : P.follows .mixedOrders = true) (hd : dstsOkL os = true) (he : edgesOk os.toArray = true)
 {F : (Nat → Value) → Act} (hF : ∀ v, frL a0 os 0 v = F v)
 (Ψ : (Nat → Bool) → (Nat → Value) → World → Prop) (h0 : ∀ v, (∀ i, v i = ((os[i]?.bind (·.dst)).map fun t => a0.tmps.getD t undef).getD undef) → Ψ (fun _ => false) v w.drew)
 (hstep : Steps P os.toArray Q F Ψ os 0)
 (hend : ∀ L v w, (∀ i, i < os.length → L i = true) → Ψ L v w → Q .normal (F v) w) : (Code.region id os.toArray true).wp P Q a0 w := by
 refine wp_region_psi0 hm (by simpa using hd) he Ψ (fun v hv => h0 v (by simpa using hv)) (fun i o ho => ?_) (fun L v w hL hΨ => ?_)
 · obtain ⟨hg, hs⟩ := steps_of _ _ hstep i o (by simpa using ho)
   rw [Nat.zero_add] at hs
   intro L v w h1 h2 h3 K hK
   have hw : Region.wanted o (yielded os.toArray (fr a0 os.toArray v).tmps) = true := by simp [Region.wanted, hg]
   rw [if_pos hw]
   have hf : fr a0 os.toArray v = F v := hF v
   rw [hf] at hK ⊢
   exact hs L v w h1 h2 h3 K hK
 · have hf : fr a0 os.toArray v = F v := hF v
   rw [hf]
   exact hend L v w (by simpa using hL) hΨ
end
theorem upd_again {f g : Nat → Nat} {i v : Nat} (h : ∀ k, upd f i v k = g k) : ∀ k, upd g i v k = g k := by
 intro k
 unfold upd at *
 by_cases e : k = i
 · subst e; rw [if_pos rfl]; have := h k; rwa [if_pos rfl] at this
 · rw [if_neg e]
def VF (L : Nat → Bool) (v : Nat → Value) (vals : List (Option Value)) : Prop := ∀ i x, vals[i]? = some (some x) → L i = true → v i = x
theorem VF.start {v : Nat → Value} {vals : List (Option Value)} : VF (fun _ => false) v vals := fun _ _ _ h => by cases h
theorem VF.at {L : Nat → Bool} {v : Nat → Value} {vals : List (Option Value)} (h : VF L v vals) {i : Nat} {x : Value} (hL : L i = true) (e : vals[i]? = some (some x)) : v i = x := h i x e hL
theorem VF.step {L : Nat → Bool} {v : Nat → Value} {vals : List (Option Value)} (h : VF L v vals) (i : Nat) {y : Value} (e : vals[i]? = some (some y)) : VF (setL L i) (updV v i y) vals := fun j x hj hL => by
 unfold setL at hL
 unfold updV
 by_cases c : j = i
 · subst c
   rw [e] at hj
   injection hj with hj
   injection hj with hj
   rw [if_pos rfl]; exact hj
 · rw [if_neg c] at hL ⊢
   exact h j x hj hL
theorem VF.skip {L : Nat → Bool} {v : Nat → Value} {vals : List (Option Value)} (h : VF L v vals) (i : Nat) {y : Value} (e : vals[i]? = some none) : VF (setL L i) (updV v i y) vals := fun j x hj hL => by
 unfold setL at hL
 unfold updV
 by_cases c : j = i
 · subst c
   rw [e] at hj
   injection hj with hj
   cases hj
 · rw [if_neg c] at hL ⊢
   exact h j x hj hL
attribute [irreducible] VF
end Go.Proofs.Ytifdkepkedlmoaa
end
section
namespace Go.Proofs.Ytifdkepkedlmoaa
open Go.RowKit
set_option linter.unusedVariables false
set_option linter.unusedSimpArgs false
attribute [local irreducible] deg invN dS qS stp stpr
set_option maxRecDepth 100000 in
set_option maxHeartbeats 3200000 in
theorem l01Divide_any (p : Nat) (a b : Nat → Nat) (w : World) (hp : p = 2 ∨ p = 3 ∨ p = 5 ∨ p = 7) (ha : ∀ k, k < 64 → a k < p) (hbp : ∀ k, k < 64 → b k < p) (hd : 0 ≤ deg b) :
 Calls Try.prog 145 #[.int .i64 (p : Int), .agg (zb 64 a), .agg (zb 64 b)] w fun e w' => e = .returned (.tuple #[.agg (zb 64 (quoP p a b)), .agg (zb 64 (resP p a b))]) ∧ Below w.heap.size w w' := by
 obtain ⟨m, hm⟩ : ∃ m : Nat, deg b = (m : Int) := ⟨(deg b).toNat, by omega⟩
 obtain ⟨hm6, hbm, _⟩ := deg_top hm
 rw [quoP_at hm, resP_at hm]
 obtain ⟨inv, hinv⟩ : ∃ v, v = invN p (b m) := ⟨_, rfl⟩
 have hi7 : inv < p := by have := (invF hp hbm (hbp m hm6)).2.1; omega
 have p2 : 2 ≤ p := by omega
 have p7 : p ≤ 7 := by omega
 have p0 : 0 < p := by omega
 rw [← hinv]
 obtain ⟨N, hN⟩ : ∃ N : Nat, deg a + 1 = (N : Int) := ⟨(deg a + 1).toNat, by have := zdb a; omega⟩
 have hN64 : N ≤ 64 := by have := zdb a; omega
 have hNa : deg a = (N : Int) - 1 := by omega
 have HZ := Lib.hid (cut_stop (a := a) (N := N) (by omega))
 have HA := Lib.hid ha
 have HC := Lib.hid (fun k (_ : k < 128) => cut_all p0 ha k)
 have HB := Lib.hid hbp; clear hbp
 have HI := Lib.hid hinv; clear hinv
 have HM := Lib.hid hm; clear hm
 have HNA := Lib.hid hNa
 clear hN hNa ha hd
 go_enter Try.func145, Try.ntmps145
 go_upto_region 1 with (fail)
 rw [← z64]
 obtain ⟨wo, hwo⟩ : ∃ wo : World, wo = ((((w.alloc (.cells (zb 64 a) 25)).alloc (.cells (zb 64 b) 25)).alloc (.cells (zb 64 fun _ => 0) 25)).alloc (.cells (zb 64 fun _ => 0) 25)) := ⟨_, rfl⟩
 have b0 : Blk wo (w.heap.size) 64 25 a := by subst hwo; have := ((((Blk.new w 64 25 a).alloc (.cells (zb 64 b) 25)).alloc (.cells (zb 64 fun _ => 0) 25)).alloc (.cells (zb 64 fun _ => 0) 25)); simpa using this
 have b1 : Blk wo (w.heap.size + 1) 64 25 b := by subst hwo; have := (((Blk.new (w.alloc (.cells (zb 64 a) 25)) 64 25 b).alloc (.cells (zb 64 fun _ => 0) 25)).alloc (.cells (zb 64 fun _ => 0) 25)); simpa using this
 have b2 : Blk wo (w.heap.size + 1 + 1) 64 25 (fun _ => 0) := by subst hwo; have := ((Blk.new ((w.alloc (.cells (zb 64 a) 25)).alloc (.cells (zb 64 b) 25)) 64 25 (fun _ => 0)).alloc (.cells (zb 64 fun _ => 0) 25)); simpa using this
 have b3 : Blk wo (w.heap.size + 1 + 1 + 1) 64 25 (fun _ => 0) := by subst hwo; have := (Blk.new (((w.alloc (.cells (zb 64 a) 25)).alloc (.cells (zb 64 b) 25)).alloc (.cells (zb 64 fun _ => 0) 25)) 64 25 (fun _ => 0)); simpa using this
 have hb : Below w.heap.size w wo := by subst hwo; exact (((((Below.refl _ _).alloc (Nat.le_refl _) _).alloc (by simp) _).alloc (by simp; omega) _).alloc (by simp; omega) _)
 rw [← hwo]
 clear hwo
 have ha : Below wo.heap.size wo wo := Below.refl _ _
 go_upto_region 2 with (first | refine zlb rfl 25 _ rfl _ rfl 64 25 _ (b1.below (by assumption) b1.lt) 5 Try.underlying25 Try.size25 ?_ | (go_at_call 113; refine (acc (l01Deg_any _ _) (by assumption)).mono ?_; rintro e w1 ⟨rfl, h1, ha⟩; rw [HM.out]) | refine wpList_store_new rfl 25 _ _ rfl _ 25 64 (fun _ => 0) rfl (by exact congrArg Value.agg z64.symm) rfl Try.size25 ?_)
 replace hb := hb.trans (ha.mono hb.size)
 replace b0 := b0.zw ha
 replace b1 := b1.zw ha
 replace b2 := b2.zw ha
 replace b3 := b3.zw ha
 have hlt3 := b3.lt
 have b8 := Blk.new w1 64 25 (fun _ => 0)
 replace b0 := b0.alloc (.cells (zb 64 fun _ => 0) 25)
 replace b1 := b1.alloc (.cells (zb 64 fun _ => 0) 25)
 replace b2 := b2.alloc (.cells (zb 64 fun _ => 0) 25)
 replace b3 := b3.alloc (.cells (zb 64 fun _ => 0) 25)
 replace hb := hb.alloc hb.size (.cells (zb 64 fun _ => 0) 25)
 clear ha h1
 obtain ⟨w2, hw2⟩ : ∃ w2 : World, w2 = w1.alloc (.cells (zb 64 fun _ => 0) 25) := ⟨_, rfl⟩
 obtain ⟨n8, hn8⟩ : ∃ n8, n8 = w1.heap.size := ⟨_, rfl⟩
 rw [← hw2] at b0 b1 b2 b3 b8 hb ⊢
 rw [← hn8] at b8 hlt3 ⊢
 clear hw2 hn8
 have ha : Below w2.heap.size w2 w2 := Below.refl _ _
 have c1 := b1.cell (i := m) hm6
 go_upto_region 4 with (first | refine zlb rfl 25 _ rfl _ rfl 64 25 _ (b0.below (by assumption) b0.lt) 5 Try.underlying25 Try.size25 ?_ | (go_at_call 191; refine (l01Inverse_any p (b m) _ hp hbm (HB.out m hm6)).mono ?_; rintro e w1 ⟨rfl, rfl⟩; rw [← HI.out]) | (go_at_call 113; refine (acc (l01Deg_any _ _) (by assumption)).mono ?_; rintro e w1 ⟨rfl, h1, ha⟩; rw [HNA.out]))
 replace hb := hb.trans (ha.mono hb.size)
 replace b0 := b0.zw ha
 replace b1 := b1.zw ha
 replace b2 := b2.zw ha
 replace b3 := b3.zw ha
 replace b8 := b8.zw ha
 clear ha h1 c1
 rw [← z64]
 go_loopw [11] (fun c wr => ∃ t s : Nat, c = .int .i64 ((t : Int) - 1) ∧ m ≤ s ∧ (s = t ∨ (t < m ∧ s = m)) ∧ t ≤ 64 ∧ s ≤ 64 ∧ Below w.heap.size w wr ∧ Blk wr w.heap.size 64 25 (dS p inv m b (cut a) (128 - s)) ∧ Blk wr (w.heap.size + 1) 64 25 b ∧ Blk wr (w.heap.size + 1 + 1) 64 25 (fun _ => 0) ∧ Blk wr (w.heap.size + 1 + 1 + 1) 64 25 (fun _ => 0) ∧ Blk wr n8 64 25 (qS p inv m b (cut a) (128 - s))) (fun c _ => (intOf c + 1).toNat)
 case atStart =>
  have hs : ∃ s : Nat, m ≤ s ∧ (s = N ∨ (N < m ∧ s = m)) ∧ N ≤ s ∧ s ≤ 64 := by
   by_cases h : N < m
   · exact ⟨m, by omega, Or.inr ⟨h, rfl⟩, by omega, by omega⟩
   · exact ⟨N, by omega, Or.inl rfl, by omega, by omega⟩
  obtain ⟨s, s1, s2, s3, s4⟩ := hs
  exact ⟨N, s, rfl, s1, s2, hN64, s4, hb, b0.congr (fun k hk => by rw [dS_stay (N := N) HC.out HZ.out _ (by omega) k (by omega), cut_in a hk]), b1, b2, b3, b8.congr (fun k _ => (qS_start HC.out HZ.out s3 k).symm)⟩
 case round =>
  clear hb b0 b1 b2 b3 b8
  obtain ⟨t, s, rfl, s1, s2, s3, s4, hb, b0, b1, b2, b3, b8⟩ := hrel
  by_cases hlt : m < t
  · obtain rfl : s = t := by omega
    obtain ⟨j, rfl⟩ : ∃ j, s = j + 1 := ⟨s - 1, by omega⟩
    rw [show ((j + 1 : Nat) : Int) - 1 = (j : Int) by omega]
    obtain ⟨A, hA⟩ : ∃ A : Nat → Nat, A = dS p inv m b (cut a) (127 - j) := ⟨_, rfl⟩
    have hAp : ∀ k, k < 128 → A k < p := by rw [hA]; exact dS_lt p0 HC.out _
    have HN := Lib.hid (show ∀ k, stp p inv m b j A k = dS p inv m b (cut a) (128 - j) k by
     intro k; rw [show 128 - j = 127 - j + 1 by omega, dS_succ, show 127 - (127 - j) = j by omega, hA])
    have HQ := Lib.hid (show ∀ k, upd (qS p inv m b (cut a) (127 - j)) (j - m) (A j * inv % p) k = qS p inv m b (cut a) (128 - j) k by
     intro k
     have := qS_next (p := p) (inv := inv) b (cut a) (i := 127 - j) (m := m) (by omega) k
     rw [show 127 - (127 - j) = j by omega, ← hA] at this
     rw [show 128 - j = 127 - j + 1 by omega]
     exact this)
    rw [show 128 - (j + 1) = 127 - j by omega] at b0 b8
    rw [← hA] at b0
    have HAP := Lib.hid hAp
    have hjA : A j < p := hAp j (by omega)
    have c0 := b0.cell (i := j) (by omega)
    obtain ⟨m1, m2⟩ := small_nat_mul p7 hjA hi7
    obtain ⟨τ, hτ⟩ : ∃ τ : Nat, τ = A j * inv % p := ⟨_, rfl⟩
    have hτp : τ < p := by rw [hτ]; exact Nat.mod_lt _ p0
    have hτe : ((A j : Int) * (inv : Int)).tmod (p : Int) = (τ : Int) := by rw [hτ, Int.tmod_eq_emod_of_nonneg m2]; push_cast; rfl
    have hτf : (A j : Int) * (inv : Int) % (p : Int) = (τ : Int) := by rw [hτ]; push_cast; rfl
    have HT := Lib.hid hτ
    have hjm : ((j : Int) - (m : Int)).toNat = j - m := by omega
    have z8 := b8.frozen (j - m)
    have c8 := b8.cell (i := j - m) (by omega)
    clear hA hAp hτ
    go_wp2_with fail
    try simp only [show decide ((m : Int) ≤ (j : Int)) = true by simp <;> omega]
    have b8q : Blk (wr.setCell ⟨n8, j - m, none⟩ (.int .u8 (τ : Int))) n8 64 25 (qS p inv m b (cut a) (128 - j)) := (b8.set rfl).congr (fun k _ => by rw [← HQ.out k, HT.out])
    have hbq : Below w.heap.size w (wr.setCell ⟨n8, j - m, none⟩ (.int .u8 (τ : Int))) := hb.setCell (by simp; omega) _
    have b0q := (b0.congr (fun k _ => (stpr_zero p inv m b j A k).symm)).setOther (a := ⟨n8, j - m, none⟩) (v := .int .u8 (τ : Int)) (by simp <;> omega)
    have b1q := b1.setOther (a := ⟨n8, j - m, none⟩) (v := .int .u8 (τ : Int)) (by simp <;> omega)
    have b2q := b2.setOther (a := ⟨n8, j - m, none⟩) (v := .int .u8 (τ : Int)) (by simp <;> omega)
    have b3q := b3.setOther (a := ⟨n8, j - m, none⟩) (v := .int .u8 (τ : Int)) (by simp <;> omega)
    obtain ⟨w5, hw5⟩ : ∃ w5, w5 = wr.setCell ⟨n8, j - m, none⟩ (.int .u8 (τ : Int)) := ⟨_, rfl⟩
    rw [← hw5] at b8q hbq b0q b1q b2q b3q ⊢
    clear hw5 hb b0 b1 b2 b3 b8 c0 c8 z8 hτe hτf m1 m2 hjm
    go_loopw [13] (fun c wr => ∃ i : Nat, i ≤ m + 1 ∧ (τ = 0 → i = 0) ∧ c = .int .i64 (i : Int) ∧ Below w.heap.size w wr ∧ Blk wr w.heap.size 64 25 (stpr p inv m b j A i) ∧ Blk wr (w.heap.size + 1) 64 25 b ∧ Blk wr (w.heap.size + 1 + 1) 64 25 (fun _ => 0) ∧ Blk wr (w.heap.size + 1 + 1 + 1) 64 25 (fun _ => 0) ∧ Blk wr n8 64 25 (qS p inv m b (cut a) (128 - j))) (fun c _ => m + 1 - (intOf c).toNat)
    case atStart => exact ⟨0, by omega, fun _ => rfl, rfl, hbq, b0q, b1q, b2q, b3q, b8q⟩
    case round =>
     clear hbq b0q b1q b2q b3q b8q
     obtain ⟨i, hi, hi0, rfl, hb, b0, b1, b2, b3, b8⟩ := hrel
     by_cases hz : τ = 0
     · obtain rfl : i = 0 := hi0 hz
       have b0f := b0.congr (g := dS p inv m b (cut a) (128 - j)) (fun k hk => by rw [stpr_zero, ← HN.out k]; exact (stp_none (N := 128) HAP.out (by rw [← HT.out, hz]) (by omega)).symm)
       have hτ0 : (τ : Int) = 0 := by omega
       clear hz
       go_wp2_with fail
       go_roundw
       case rel => exact ⟨j, j, by go_num, by omega, Or.inl rfl, by omega, by omega, hb, b0f, b1, b2, b3, b8⟩
       case measure => simp [intOf] <;> omega
     · have hτ0 : (τ : Int) ≠ 0 := by omega
       by_cases hlti : i < m + 1
       · have v1 := HAP.out (j - m + i) (by omega)
         have v2 := HB.out i (by omega)
         have hji : ((j : Int) - (m : Int) + (i : Int)).toNat = j - m + i := by omega
         obtain ⟨m3, m4⟩ := small_nat_mul p7 hτp v2
         obtain ⟨V, hV⟩ : ∃ V, V = (A (j - m + i) + (p - A j * inv % p) * b i) % p := ⟨_, rfl⟩
         have hVp : V < p := by rw [hV]; exact Nat.mod_lt _ p0
         have hE : ((A (j - m + i) : Int) - (τ : Int) * (b i : Int)) % (p : Int) = (V : Int) := by rw [hV, ← HT.out]; exact take_off (by omega)
         obtain ⟨r1, hr1⟩ : ∃ r1, r1 = ((A (j - m + i) : Int) - (τ : Int) * (b i : Int)).tmod (p : Int) := ⟨_, rfl⟩
         have hr2 : (r1 + (p : Int)).tmod (p : Int) = (V : Int) := by rw [hr1, tmod_twice _ p p0]; exact hE
         have t1 : -(p : Int) < r1 := by
          have := Int.tmod_lt_of_pos (-((A (j - m + i) : Int) - (τ : Int) * (b i : Int))) (b := (p : Int)) (by omega)
          rw [Int.neg_tmod] at this; omega
         have t2 : r1 < (p : Int) := by rw [hr1]; exact Int.tmod_lt_of_pos _ (by omega)
         have hr3 := hr1.symm
         have HV := Lib.hid hV
         clear hE hV hr1 hi0
         go_wp2_with fail
         try simp only [show decide ((i : Int) ≤ (m : Int)) = true by simp <;> omega]
         try simp only [show ((τ : Int) != 0) = true by simp <;> omega]
         try simp only [Bool.true_and, Bool.and_true]
         have lt_b0 : (w.heap.size) < wr.heap.size := b0.lt
         have lt_b1 : (w.heap.size + 1) < wr.heap.size := b1.lt
         have lt_b2 : (w.heap.size + 1 + 1) < wr.heap.size := b2.lt
         have lt_b3 : (w.heap.size + 1 + 1 + 1) < wr.heap.size := b3.lt
         have lt_b8 : (n8) < wr.heap.size := b8.lt
         have hbase : w.heap.size ≤ wr.heap.size := hb.size
         refine zq Try.mixed (by kernel_rfl) (by kernel_rfl) (fun v => by (simp only [frL, Act.put, pA, pB, pC, Nat.reduceAdd, Nat.zero_add]; exact rfl))
          (fun L v wx => Below w.heap.size w wx ∧ wr.heap.size ≤ wx.heap.size ∧ (∃ g, Blk wx (w.heap.size) 64 25 (g)) ∧ (L 28 = false → Blk wx (w.heap.size) 64 25 (stpr p inv m b j A i)) ∧ (L 28 = true → Blk wx (w.heap.size) 64 25 (stpr p inv m b j A (i + 1))) ∧ Blk wx (w.heap.size + 1) 64 25 (b) ∧ Blk wx (w.heap.size + 1 + 1) 64 25 (fun _ => 0) ∧ Blk wx (w.heap.size + 1 + 1 + 1) 64 25 (fun _ => 0) ∧ Blk wx (n8) 64 25 (qS p inv m b (cut a) (128 - j)) ∧ (L 0 = true → v 0 = (.int .i64 (j : Int))) ∧ (L 1 = true → v 1 = (.int .i64 (m : Int))) ∧ (L 2 = true → v 2 = (.int .i64 ((j : Int) - (m : Int)))) ∧ (L 3 = true → v 3 = (.int .i64 (i : Int))) ∧ (L 4 = true → v 4 = (.int .i64 ((j : Int) - (m : Int) + (i : Int)))) ∧ (L 5 = true → v 5 = (.int .i64 (j : Int))) ∧ (L 6 = true → v 6 = (.int .i64 (m : Int))) ∧ (L 7 = true → v 7 = (.int .i64 ((j : Int) - (m : Int)))) ∧ (L 8 = true → v 8 = (.int .i64 (i : Int))) ∧ (L 9 = true → v 9 = (.int .i64 ((j : Int) - (m : Int) + (i : Int)))) ∧ (L 10 = true → v 10 = (.pointer (some ⟨w.heap.size, j - m + i, none⟩))) ∧ (L 11 = true → v 11 = (.int .u8 (A (j - m + i) : Int))) ∧ (L 12 = true → v 12 = (.int .i64 (A (j - m + i) : Int))) ∧ (L 13 = true → v 13 = (.int .i64 (τ : Int))) ∧ (L 14 = true → v 14 = (.int .i64 (i : Int))) ∧ (L 15 = true → v 15 = (.pointer (some ⟨w.heap.size + 1, i, none⟩))) ∧ (L 16 = true → v 16 = (.int .u8 (b i : Int))) ∧ (L 17 = true → v 17 = (.int .i64 (b i : Int))) ∧ (L 18 = true → v 18 = (.int .i64 ((τ : Int) * (b i : Int)))) ∧ (L 19 = true → v 19 = (.int .i64 ((A (j - m + i) : Int) - ((τ : Int) * (b i : Int))))) ∧ (L 20 = true → v 20 = (.int .i64 (p : Int))) ∧ (L 21 = true → v 21 = (.int .i64 r1)) ∧ (L 22 = true → v 22 = (.int .i64 (p : Int))) ∧ (L 23 = true → v 23 = (.int .i64 (r1 + (p : Int)))) ∧ (L 24 = true → v 24 = (.int .i64 (p : Int))) ∧ (L 25 = true → v 25 = (.int .i64 (V : Int))) ∧ (L 26 = true → v 26 = (.int .u8 (V : Int))) ∧ (L 27 = true → v 27 = (.pointer (some ⟨w.heap.size, j - m + i, none⟩)))) ?_ ?_ ?_
         · intro v hv0
           exact ⟨hb.drew, Nat.le_refl _, ⟨_, b0.drew⟩, (fun _ => b0.drew), (fun h => by cases h), b1.drew, b2.drew, b3.drew, b8.drew, (fun h => by cases h), (fun h => by cases h), (fun h => by cases h), (fun h => by cases h), (fun h => by cases h), (fun h => by cases h), (fun h => by cases h), (fun h => by cases h), (fun h => by cases h), (fun h => by cases h), (fun h => by cases h), (fun h => by cases h), (fun h => by cases h), (fun h => by cases h), (fun h => by cases h), (fun h => by cases h), (fun h => by cases h), (fun h => by cases h), (fun h => by cases h), (fun h => by cases h), (fun h => by cases h), (fun h => by cases h), (fun h => by cases h), (fun h => by cases h), (fun h => by cases h), (fun h => by cases h), (fun h => by cases h), (fun h => by cases h)⟩
         · refine (.cons rfl ?_ (.cons rfl ?_ (.cons rfl ?_ (.cons rfl ?_ (.cons rfl ?_ (.cons rfl ?_ (.cons rfl ?_ (.cons rfl ?_ (.cons rfl ?_ (.cons rfl ?_ (.cons rfl ?_ (.cons rfl ?_ (.cons rfl ?_ (.cons rfl ?_ (.cons rfl ?_ (.cons rfl ?_ (.cons rfl ?_ (.cons rfl ?_ (.cons rfl ?_ (.cons rfl ?_ (.cons rfl ?_ (.cons rfl ?_ (.cons rfl ?_ (.cons rfl ?_ (.cons rfl ?_ (.cons rfl ?_ (.cons rfl ?_ (.cons rfl ?_ (.cons rfl ?_ (.nil _))))))))))))))))))))))))))))))
           all_goals intro L v wx hd hn ⟨hB, hz, x0, q0, n0, s1, s2, s3, s4, h0, h1, h2, h3, h4, h5, h6, h7, h8, h9, h10, h11, h12, h13, h14, h15, h16, h17, h18, h19, h20, h21, h22, h23, h24, h25, h26, h27⟩ K hK
           · go_wp2_with fail
             exact hK _ (.int .i64 (j : Int)) _ (by simp only [Act.put, pA, pB, pC ]) ⟨hB, hz, x0, q0, n0, s1, s2, s3, s4, (fun _ => rfl), h1, h2, h3, h4, h5, h6, h7, h8, h9, h10, h11, h12, h13, h14, h15, h16, h17, h18, h19, h20, h21, h22, h23, h24, h25, h26, h27⟩
           · go_wp2_with fail
             exact hK _ (.int .i64 (m : Int)) _ (by simp only [Act.put, pA, pB, pC ]) ⟨hB, hz, x0, q0, n0, s1, s2, s3, s4, h0, (fun _ => rfl), h2, h3, h4, h5, h6, h7, h8, h9, h10, h11, h12, h13, h14, h15, h16, h17, h18, h19, h20, h21, h22, h23, h24, h25, h26, h27⟩
           · have e0 := h0 (zdq hd 0 rfl)
             have e1 := h1 (zdq hd 1 rfl)
             go_wp2_with fail
             exact hK _ (.int .i64 ((j : Int) - (m : Int))) _ (by simp only [Act.put, pA, pB, pC, e0, e1]) ⟨hB, hz, x0, q0, n0, s1, s2, s3, s4, h0, h1, (fun _ => rfl), h3, h4, h5, h6, h7, h8, h9, h10, h11, h12, h13, h14, h15, h16, h17, h18, h19, h20, h21, h22, h23, h24, h25, h26, h27⟩
           · go_wp2_with fail
             exact hK _ (.int .i64 (i : Int)) _ (by simp only [Act.put, pA, pB, pC ]) ⟨hB, hz, x0, q0, n0, s1, s2, s3, s4, h0, h1, h2, (fun _ => rfl), h4, h5, h6, h7, h8, h9, h10, h11, h12, h13, h14, h15, h16, h17, h18, h19, h20, h21, h22, h23, h24, h25, h26, h27⟩
           · have e2 := h2 (zdq hd 2 rfl)
             have e3 := h3 (zdq hd 3 rfl)
             go_wp2_with fail
             exact hK _ (.int .i64 ((j : Int) - (m : Int) + (i : Int))) _ (by simp only [Act.put, pA, pB, pC, e2, e3]) ⟨hB, hz, x0, q0, n0, s1, s2, s3, s4, h0, h1, h2, h3, (fun _ => rfl), h5, h6, h7, h8, h9, h10, h11, h12, h13, h14, h15, h16, h17, h18, h19, h20, h21, h22, h23, h24, h25, h26, h27⟩
           · go_wp2_with fail
             exact hK _ (.int .i64 (j : Int)) _ (by simp only [Act.put, pA, pB, pC ]) ⟨hB, hz, x0, q0, n0, s1, s2, s3, s4, h0, h1, h2, h3, h4, (fun _ => rfl), h6, h7, h8, h9, h10, h11, h12, h13, h14, h15, h16, h17, h18, h19, h20, h21, h22, h23, h24, h25, h26, h27⟩
           · go_wp2_with fail
             exact hK _ (.int .i64 (m : Int)) _ (by simp only [Act.put, pA, pB, pC ]) ⟨hB, hz, x0, q0, n0, s1, s2, s3, s4, h0, h1, h2, h3, h4, h5, (fun _ => rfl), h7, h8, h9, h10, h11, h12, h13, h14, h15, h16, h17, h18, h19, h20, h21, h22, h23, h24, h25, h26, h27⟩
           · have e5 := h5 (zdq hd 5 rfl)
             have e6 := h6 (zdq hd 6 rfl)
             go_wp2_with fail
             exact hK _ (.int .i64 ((j : Int) - (m : Int))) _ (by simp only [Act.put, pA, pB, pC, e5, e6]) ⟨hB, hz, x0, q0, n0, s1, s2, s3, s4, h0, h1, h2, h3, h4, h5, h6, (fun _ => rfl), h8, h9, h10, h11, h12, h13, h14, h15, h16, h17, h18, h19, h20, h21, h22, h23, h24, h25, h26, h27⟩
           · go_wp2_with fail
             exact hK _ (.int .i64 (i : Int)) _ (by simp only [Act.put, pA, pB, pC ]) ⟨hB, hz, x0, q0, n0, s1, s2, s3, s4, h0, h1, h2, h3, h4, h5, h6, h7, (fun _ => rfl), h9, h10, h11, h12, h13, h14, h15, h16, h17, h18, h19, h20, h21, h22, h23, h24, h25, h26, h27⟩
           · have e7 := h7 (zdq hd 7 rfl)
             have e8 := h8 (zdq hd 8 rfl)
             go_wp2_with fail
             exact hK _ (.int .i64 ((j : Int) - (m : Int) + (i : Int))) _ (by simp only [Act.put, pA, pB, pC, e7, e8]) ⟨hB, hz, x0, q0, n0, s1, s2, s3, s4, h0, h1, h2, h3, h4, h5, h6, h7, h8, (fun _ => rfl), h10, h11, h12, h13, h14, h15, h16, h17, h18, h19, h20, h21, h22, h23, h24, h25, h26, h27⟩
           · have e9 := h9 (zdq hd 9 rfl)
             go_wp2_with fail
             exact hK _ (.pointer (some ⟨w.heap.size, j - m + i, none⟩)) _ (by simp only [Act.put, pA, pB, pC, e9]) ⟨hB, hz, x0, q0, n0, s1, s2, s3, s4, h0, h1, h2, h3, h4, h5, h6, h7, h8, h9, (fun _ => rfl), h11, h12, h13, h14, h15, h16, h17, h18, h19, h20, h21, h22, h23, h24, h25, h26, h27⟩
           · have e10 := h10 (zdq hd 10 rfl)
             have s0 := q0 (by
              cases hL : L 28 with
              | false => rfl
              | true => exact absurd rfl (hn 28 _ rfl hL ⟨11, .phase⟩ (by simp) rfl))
             have cc := s0.cell (i := j - m + i) (by omega)
             rw [stpr_at] at cc
             go_wp2_with fail
             exact hK _ (.int .u8 (A (j - m + i) : Int)) _ (by simp only [Act.put, pA, pB, pC, e10]) ⟨hB, hz, x0, q0, n0, s1, s2, s3, s4, h0, h1, h2, h3, h4, h5, h6, h7, h8, h9, h10, (fun _ => rfl), h12, h13, h14, h15, h16, h17, h18, h19, h20, h21, h22, h23, h24, h25, h26, h27⟩
           · have e11 := h11 (zdq hd 11 rfl)
             go_wp2_with fail
             exact hK _ (.int .i64 (A (j - m + i) : Int)) _ (by simp only [Act.put, pA, pB, pC, e11]) ⟨hB, hz, x0, q0, n0, s1, s2, s3, s4, h0, h1, h2, h3, h4, h5, h6, h7, h8, h9, h10, h11, (fun _ => rfl), h13, h14, h15, h16, h17, h18, h19, h20, h21, h22, h23, h24, h25, h26, h27⟩
           · go_wp2_with fail
             exact hK _ (.int .i64 (τ : Int)) _ (by simp only [Act.put, pA, pB, pC ]) ⟨hB, hz, x0, q0, n0, s1, s2, s3, s4, h0, h1, h2, h3, h4, h5, h6, h7, h8, h9, h10, h11, h12, (fun _ => rfl), h14, h15, h16, h17, h18, h19, h20, h21, h22, h23, h24, h25, h26, h27⟩
           · go_wp2_with fail
             exact hK _ (.int .i64 (i : Int)) _ (by simp only [Act.put, pA, pB, pC ]) ⟨hB, hz, x0, q0, n0, s1, s2, s3, s4, h0, h1, h2, h3, h4, h5, h6, h7, h8, h9, h10, h11, h12, h13, (fun _ => rfl), h15, h16, h17, h18, h19, h20, h21, h22, h23, h24, h25, h26, h27⟩
           · have e14 := h14 (zdq hd 14 rfl)
             go_wp2_with fail
             exact hK _ (.pointer (some ⟨w.heap.size + 1, i, none⟩)) _ (by simp only [Act.put, pA, pB, pC, e14]) ⟨hB, hz, x0, q0, n0, s1, s2, s3, s4, h0, h1, h2, h3, h4, h5, h6, h7, h8, h9, h10, h11, h12, h13, h14, (fun _ => rfl), h16, h17, h18, h19, h20, h21, h22, h23, h24, h25, h26, h27⟩
           · have e15 := h15 (zdq hd 15 rfl)
             have cc := s1.cell (i := i) (by omega)
             go_wp2_with fail
             exact hK _ (.int .u8 (b i : Int)) _ (by simp only [Act.put, pA, pB, pC, e15]) ⟨hB, hz, x0, q0, n0, s1, s2, s3, s4, h0, h1, h2, h3, h4, h5, h6, h7, h8, h9, h10, h11, h12, h13, h14, h15, (fun _ => rfl), h17, h18, h19, h20, h21, h22, h23, h24, h25, h26, h27⟩
           · have e16 := h16 (zdq hd 16 rfl)
             go_wp2_with fail
             exact hK _ (.int .i64 (b i : Int)) _ (by simp only [Act.put, pA, pB, pC, e16]) ⟨hB, hz, x0, q0, n0, s1, s2, s3, s4, h0, h1, h2, h3, h4, h5, h6, h7, h8, h9, h10, h11, h12, h13, h14, h15, h16, (fun _ => rfl), h18, h19, h20, h21, h22, h23, h24, h25, h26, h27⟩
           · have e13 := h13 (zdq hd 13 rfl)
             have e17 := h17 (zdq hd 17 rfl)
             go_wp2_with fail
             exact hK _ (.int .i64 ((τ : Int) * (b i : Int))) _ (by simp only [Act.put, pA, pB, pC, e13, e17]) ⟨hB, hz, x0, q0, n0, s1, s2, s3, s4, h0, h1, h2, h3, h4, h5, h6, h7, h8, h9, h10, h11, h12, h13, h14, h15, h16, h17, (fun _ => rfl), h19, h20, h21, h22, h23, h24, h25, h26, h27⟩
           · have e12 := h12 (zdq hd 12 rfl)
             have e18 := h18 (zdq hd 18 rfl)
             go_wp2_with fail
             exact hK _ (.int .i64 ((A (j - m + i) : Int) - ((τ : Int) * (b i : Int)))) _ (by simp only [Act.put, pA, pB, pC, e12, e18]) ⟨hB, hz, x0, q0, n0, s1, s2, s3, s4, h0, h1, h2, h3, h4, h5, h6, h7, h8, h9, h10, h11, h12, h13, h14, h15, h16, h17, h18, (fun _ => rfl), h20, h21, h22, h23, h24, h25, h26, h27⟩
           · go_wp2_with fail
             exact hK _ (.int .i64 (p : Int)) _ (by simp only [Act.put, pA, pB, pC ]) ⟨hB, hz, x0, q0, n0, s1, s2, s3, s4, h0, h1, h2, h3, h4, h5, h6, h7, h8, h9, h10, h11, h12, h13, h14, h15, h16, h17, h18, h19, (fun _ => rfl), h21, h22, h23, h24, h25, h26, h27⟩
           · have e19 := h19 (zdq hd 19 rfl)
             have e20 := h20 (zdq hd 20 rfl)
             go_wp2_with fail
             exact hK _ (.int .i64 r1) _ (by simp only [Act.put, pA, pB, pC, e19, e20]) ⟨hB, hz, x0, q0, n0, s1, s2, s3, s4, h0, h1, h2, h3, h4, h5, h6, h7, h8, h9, h10, h11, h12, h13, h14, h15, h16, h17, h18, h19, h20, (fun _ => rfl), h22, h23, h24, h25, h26, h27⟩
           · go_wp2_with fail
             exact hK _ (.int .i64 (p : Int)) _ (by simp only [Act.put, pA, pB, pC ]) ⟨hB, hz, x0, q0, n0, s1, s2, s3, s4, h0, h1, h2, h3, h4, h5, h6, h7, h8, h9, h10, h11, h12, h13, h14, h15, h16, h17, h18, h19, h20, h21, (fun _ => rfl), h23, h24, h25, h26, h27⟩
           · have e21 := h21 (zdq hd 21 rfl)
             have e22 := h22 (zdq hd 22 rfl)
             go_wp2_with fail
             exact hK _ (.int .i64 (r1 + (p : Int))) _ (by simp only [Act.put, pA, pB, pC, e21, e22]) ⟨hB, hz, x0, q0, n0, s1, s2, s3, s4, h0, h1, h2, h3, h4, h5, h6, h7, h8, h9, h10, h11, h12, h13, h14, h15, h16, h17, h18, h19, h20, h21, h22, (fun _ => rfl), h24, h25, h26, h27⟩
           · go_wp2_with fail
             exact hK _ (.int .i64 (p : Int)) _ (by simp only [Act.put, pA, pB, pC ]) ⟨hB, hz, x0, q0, n0, s1, s2, s3, s4, h0, h1, h2, h3, h4, h5, h6, h7, h8, h9, h10, h11, h12, h13, h14, h15, h16, h17, h18, h19, h20, h21, h22, h23, (fun _ => rfl), h25, h26, h27⟩
           · have e23 := h23 (zdq hd 23 rfl)
             have e24 := h24 (zdq hd 24 rfl)
             go_wp2_with fail
             exact hK _ (.int .i64 (V : Int)) _ (by simp only [Act.put, pA, pB, pC, e23, e24]) ⟨hB, hz, x0, q0, n0, s1, s2, s3, s4, h0, h1, h2, h3, h4, h5, h6, h7, h8, h9, h10, h11, h12, h13, h14, h15, h16, h17, h18, h19, h20, h21, h22, h23, h24, (fun _ => rfl), h26, h27⟩
           · have e25 := h25 (zdq hd 25 rfl)
             go_wp2_with fail
             exact hK _ (.int .u8 (V : Int)) _ (by simp only [Act.put, pA, pB, pC, e25]) ⟨hB, hz, x0, q0, n0, s1, s2, s3, s4, h0, h1, h2, h3, h4, h5, h6, h7, h8, h9, h10, h11, h12, h13, h14, h15, h16, h17, h18, h19, h20, h21, h22, h23, h24, h25, (fun _ => rfl), h27⟩
           · have e4 := h4 (zdq hd 4 rfl)
             go_wp2_with fail
             exact hK _ (.pointer (some ⟨w.heap.size, j - m + i, none⟩)) _ (by simp only [Act.put, pA, pB, pC, e4]) ⟨hB, hz, x0, q0, n0, s1, s2, s3, s4, h0, h1, h2, h3, h4, h5, h6, h7, h8, h9, h10, h11, h12, h13, h14, h15, h16, h17, h18, h19, h20, h21, h22, h23, h24, h25, h26, (fun _ => rfl)⟩
           · have e27 := h27 (zdq hd 27 rfl)
             have e26 := h26 (zdq hd 26 rfl)
             obtain ⟨gz, hk⟩ := x0
             have zz := hk.frozen (j - m + i)
             have cc := hk.cell (i := j - m + i) (by omega)
             go_wp2_with fail
             exact hK _ undef _ (by simp only [Act.put, pA, pB, pC, e27, e26]) ⟨hB.setCell (by simp <;> omega) _, (by simpa using hz), ⟨_, hk.set (v := V) rfl⟩, (fun h => absurd h (by simp [setL])), (fun _ => by cases hL : L 28 with | false => exact ((q0 hL).set (v := V) rfl).congr (fun k _ => by rw [HV.out]; exact stpr_next p inv m b j A i k) | true => exact ((n0 hL).set (v := V) rfl).congr (fun k _ => upd_again (fun k => by rw [HV.out]; exact stpr_next p inv m b j A i k) k)), (s1).setOther (by simp <;> omega), (s2).setOther (by simp <;> omega), (s3).setOther (by simp <;> omega), (s4).setOther (by simp <;> omega), h0, h1, h2, h3, h4, h5, h6, h7, h8, h9, h10, h11, h12, h13, h14, h15, h16, h17, h18, h19, h20, h21, h22, h23, h24, h25, h26, h27⟩
         · intro L v wx hL ⟨hB, hz, x0, q0, n0, s1, s2, s3, s4, h0, h1, h2, h3, h4, h5, h6, h7, h8, h9, h10, h11, h12, h13, h14, h15, h16, h17, h18, h19, h20, h21, h22, h23, h24, h25, h26, h27⟩
           have r0 := n0 (hL 28 (by decide))
           have e0 := h0 (hL 0 (by decide))
           have e1 := h1 (hL 1 (by decide))
           have e2 := h2 (hL 2 (by decide))
           have e3 := h3 (hL 3 (by decide))
           have e4 := h4 (hL 4 (by decide))
           have e5 := h5 (hL 5 (by decide))
           have e6 := h6 (hL 6 (by decide))
           have e7 := h7 (hL 7 (by decide))
           have e8 := h8 (hL 8 (by decide))
           have e9 := h9 (hL 9 (by decide))
           have e10 := h10 (hL 10 (by decide))
           have e11 := h11 (hL 11 (by decide))
           have e12 := h12 (hL 12 (by decide))
           have e13 := h13 (hL 13 (by decide))
           have e14 := h14 (hL 14 (by decide))
           have e15 := h15 (hL 15 (by decide))
           have e16 := h16 (hL 16 (by decide))
           have e17 := h17 (hL 17 (by decide))
           have e18 := h18 (hL 18 (by decide))
           have e19 := h19 (hL 19 (by decide))
           have e20 := h20 (hL 20 (by decide))
           have e21 := h21 (hL 21 (by decide))
           have e22 := h22 (hL 22 (by decide))
           have e23 := h23 (hL 23 (by decide))
           have e24 := h24 (hL 24 (by decide))
           have e25 := h25 (hL 25 (by decide))
           have e26 := h26 (hL 26 (by decide))
           have e27 := h27 (hL 27 (by decide))
           clear hL x0 q0 n0 h0 h1 h2 h3 h4 h5 h6 h7 h8 h9 h10 h11 h12 h13 h14 h15 h16 h17 h18 h19 h20 h21 h22 h23 h24 h25 h26 h27
           simp only [Exit.then, e0, e1, e2, e3, e4, e5, e6, e7, e8, e9, e10, e11, e12, e13, e14, e15, e16, e17, e18, e19, e20, e21, e22, e23, e24, e25, e26, e27]
           clear e0 e1 e2 e3 e4 e5 e6 e7 e8 e9 e10 e11 e12 e13 e14 e15 e16 e17 e18 e19 e20 e21 e22 e23 e24 e25 e26 e27
           go_wp2_with fail
           go_roundw
           case rel => exact ⟨i + 1, by omega, fun h => by omega, by go_num, hB, r0, s1, s2, s3, s4⟩
           case measure => simp [intOf] <;> omega
       · obtain rfl : i = m + 1 := by omega
         have b0f := b0.congr (g := dS p inv m b (cut a) (128 - j)) (fun k _ => by rw [stpr_full p inv m b A (by omega) k]; exact HN.out k)
         go_wp2_with fail
         go_roundw
         case rel => exact ⟨j, j, by go_num, by omega, Or.inl rfl, by omega, by omega, hb, b0f, b1, b2, b3, b8⟩
         case measure => simp [intOf] <;> omega
  · obtain rfl : m = s := by omega
    go_wp2_with fail
    have lt_b0 : (w.heap.size) < wr.heap.size := b0.lt
    have lt_b8 : (n8) < wr.heap.size := b8.lt
    have lt_b2 : (w.heap.size + 1 + 1) < wr.heap.size := b2.lt
    have lt_b3 : (w.heap.size + 1 + 1 + 1) < wr.heap.size := b3.lt
    have hbase : w.heap.size ≤ wr.heap.size := hb.size
    refine zq Try.mixed (by kernel_rfl) (by kernel_rfl) (fun v => by (simp only [frL, Act.put, pA, pB, pC, Nat.reduceAdd, Nat.zero_add]; exact rfl))
     (fun L v wx => Below w.heap.size w wx ∧ wr.heap.size ≤ wx.heap.size ∧ Blk wx (w.heap.size) 64 25 (dS p inv m b (cut a) (128 - m)) ∧ Blk wx (n8) 64 25 (qS p inv m b (cut a) (128 - m)) ∧ (∃ g, Blk wx (w.heap.size + 1 + 1) 64 25 (g)) ∧ (L 2 = false → Blk wx (w.heap.size + 1 + 1) 64 25 (fun _ => 0)) ∧ (L 2 = true → Blk wx (w.heap.size + 1 + 1) 64 25 (quoW p inv m b (cut a))) ∧ (∃ g, Blk wx (w.heap.size + 1 + 1 + 1) 64 25 (g)) ∧ (L 3 = false → Blk wx (w.heap.size + 1 + 1 + 1) 64 25 (fun _ => 0)) ∧ (L 3 = true → Blk wx (w.heap.size + 1 + 1 + 1) 64 25 (resW p inv m b (cut a))) ∧ (L 0 = true → v 0 = (.agg (zb 64 (qS p inv m b (cut a) (128 - m))))) ∧ (L 1 = true → v 1 = (.agg (zb 64 (dS p inv m b (cut a) (128 - m)))))) ?_ ?_ ?_
    · intro v hv0
      exact ⟨hb.drew, Nat.le_refl _, b0.drew, b8.drew, ⟨_, b2.drew⟩, (fun _ => b2.drew), (fun h => by cases h), ⟨_, b3.drew⟩, (fun _ => b3.drew), (fun h => by cases h), (fun h => by cases h), (fun h => by cases h)⟩
    · refine (.cons rfl ?_ (.cons rfl ?_ (.cons rfl ?_ (.cons rfl ?_ (.nil _)))))
      all_goals intro L v wx hd hn ⟨hB, hz, s0, s1, x2, q2, n2, x3, q3, n3, h0, h1⟩ K hK
      · refine wp_load_blk 25 _ rfl _ rfl 64 25 _ s1 _ Try.underlying25 Try.size25 ?_
        exact hK _ _ _ rfl ⟨hB, hz, s0, s1, x2, q2, n2, x3, q3, n3, (fun _ => rfl), h1⟩
      · refine wp_load_blk 25 _ rfl _ rfl 64 25 _ s0 _ Try.underlying25 Try.size25 ?_
        exact hK _ _ _ rfl ⟨hB, hz, s0, s1, x2, q2, n2, x3, q3, n3, h0, (fun _ => rfl)⟩
      · have e0 := h0 (zdq hd 0 rfl)
        obtain ⟨gz, hk⟩ := x2
        refine zsb 25 _ _ rfl _ 64 (qS p inv m b (cut a) (128 - m)) rfl e0 25 gz hk Try.size25 ?_
        exact hK _ undef _ rfl ⟨zr hB (by omega) _, (by simpa [World.setRow] using hz), (s0).rowOther (by omega), (s1).rowOther (by omega), ⟨_, hk.row _⟩, (fun h => absurd h (by simp [setL])), (fun _ => hk.row _), (let ⟨g, h⟩ := x3; ⟨g, (h).rowOther (by omega)⟩), (fun h => (q3 h).rowOther (by omega)), (fun h => (n3 h).rowOther (by omega)), h0, h1⟩
      · have e1 := h1 (zdq hd 1 rfl)
        obtain ⟨gz, hk⟩ := x3
        refine zsb 25 _ _ rfl _ 64 (dS p inv m b (cut a) (128 - m)) rfl e1 25 gz hk Try.size25 ?_
        exact hK _ undef _ rfl ⟨zr hB (by omega) _, (by simpa [World.setRow] using hz), (s0).rowOther (by omega), (s1).rowOther (by omega), (let ⟨g, h⟩ := x2; ⟨g, (h).rowOther (by omega)⟩), (fun h => (q2 h).rowOther (by omega)), (fun h => (n2 h).rowOther (by omega)), ⟨_, hk.row _⟩, (fun h => absurd h (by simp [setL])), (fun _ => hk.row _), h0, h1⟩
    · intro L v wx hL ⟨hB, hz, s0, s1, x2, q2, n2, x3, q3, n3, h0, h1⟩
      have r2 := n2 (hL 2 (by decide))
      have r3 := n3 (hL 3 (by decide))
      have e0 := h0 (hL 0 (by decide))
      have e1 := h1 (hL 1 (by decide))
      clear hL x2 q2 n2 x3 q3 n3 h0 h1
      simp only [Exit.then, e0, e1]
      clear e0 e1
      go_wp2_with fail
      show bodyPost Try.prog Try.f145 _ .ret _ _
      refine bodyPost_ret (results_bb rfl _ _ _ 64 25 5 _ _ 64 25 5 _ rfl r2 Try.underlying25 Try.size25 rfl r3 Try.underlying25 Try.size25) rfl ⟨rfl, hB⟩
end Go.Proofs.Ytifdkepkedlmoaa
end
section
namespace Go.Proofs.Ytifdkepkedlmoaa
open Go
/-- as Q; by a goto: J of its label -/
def _root_.Go.Exit.jumps (J : Nat → Act → World → Prop) (Q : Exit → Act → World → Prop) : Exit → Act → World → Prop
 | .goto l, a, w => J l a w
 | e, a, w => Q e a w
section
variable {P : Program} {a : Act} {w : World} {Q : Exit → Act → World → Prop}
theorem wp_scope_labels {c : Code} (J : Nat → Act → World → Prop) (μ : Nat → Act → World → Nat)
 (first : c.wp P (Exit.jumps J Q) a w)
 (pass : ∀ l a w, J l a w → ∃ rest, findLabel c l = some rest ∧ rest.wp P (Exit.jumps (fun l' a' w' => J l' a' w' ∧ μ l' a' w' < μ l a w) Q) a w) : (Code.scope c).wp P Q a w := by
 intro b k cs
 have key : ∀ n l a w, μ l a w = n → J l a w → ∃ rest, findLabel c l = some rest ∧ ∃ e a' w', Q e a' w' ∧ Arrives P (lone (b.at a (.code rest :: .inScope c :: k)) cs w) b k cs e a' w' := by
  intro n
  induction n using Nat.strongRecOn with
  | _ n ih =>
   intro l a w hn hJ
   obtain ⟨rest, hf, hp⟩ := pass l a w hJ
   refine ⟨rest, hf, ?_⟩
   obtain ⟨e, a₁, w₁, hq, harr⟩ := hp b (.inScope c :: k) cs
   cases e with
   | normal => exact ⟨.normal, a₁, w₁, hq, Steps.trans harr (.one step_inScope)⟩
   | exit id => exact ⟨.exit id, a₁, w₁, hq, fun k' hk => harr k' (by simp [exitTo, hk])⟩
   | goto l' =>
    obtain ⟨hJ', hlt⟩ := hq
    obtain ⟨rest', hf', e₂, a₂, w₂, hq₂, harr₂⟩ := ih _ (by omega) l' a₁ w₁ rfl hJ'
    have hg : gotoIn l' (.inScope c :: k) = some (.code rest' :: .inScope c :: k) := by simp [gotoIn, hf']
    exact ⟨e₂, a₂, w₂, hq₂, .of_steps (harr _ hg) harr₂⟩
   | ret => exact ⟨_, a₁, w₁, hq, harr⟩
   | panic ch => exact ⟨_, a₁, w₁, hq, harr⟩
   | outgrown => exact ⟨_, a₁, w₁, hq, harr⟩
 obtain ⟨e, a₁, w₁, hq, harr⟩ := first b (.inScope c :: k) cs
 cases e with
 | normal => exact ⟨.normal, a₁, w₁, hq, .head step_scope (Steps.trans harr (.one step_inScope))⟩
 | exit id => exact ⟨.exit id, a₁, w₁, hq, fun k' hk => .head step_scope (harr k' (by simp [exitTo, hk]))⟩
 | goto l' =>
  obtain ⟨rest', hf', e₂, a₂, w₂, hq₂, harr₂⟩ := key _ l' a₁ w₁ rfl hq
  have hg : gotoIn l' (.inScope c :: k) = some (.code rest' :: .inScope c :: k) := by simp [gotoIn, hf']
  exact ⟨e₂, a₂, w₂, hq₂, .of_steps (.head step_scope (harr _ hg)) harr₂⟩
 | ret => exact ⟨_, a₁, w₁, hq, .of_steps (.one step_scope) harr⟩
 | panic ch => exact ⟨_, a₁, w₁, hq, .of_steps (.one step_scope) harr⟩
 | outgrown => exact ⟨_, a₁, w₁, hq, .of_steps (.one step_scope) harr⟩
end
end Go.Proofs.Ytifdkepkedlmoaa
end
section
namespace Go.Proofs.Ytifdkepkedlmoaa
open Go.RowKit
set_option linter.unusedVariables false
set_option linter.unusedSimpArgs false
attribute [local irreducible] deg invN dS qS stp stpr
/-- the first scope within a code -/
def scopeIn : Code → Option Code
 | .seq a b => match scopeIn a with
  | some c => some c
  | none => scopeIn b
 | .scope c => some c
 | _ => none
/-- what stands behind a label of the first scope -/
def behind (fn : Func) (l : Nat) : Code := (findLabel ((fn.body.bind scopeIn).getD .skip) l).getD .skip
def tailOf : Code → Code
 | .seq _ b => b
 | c => c
theorem behind_tail {fn : Func} {l : Nat} {P : Program} {Q : Exit → Act → World → Prop} {a : Act} {w : World} (hs : behind fn l = .seq .skip (tailOf (behind fn l))) (h : (tailOf (behind fn l)).wp P Q a w) : (behind fn l).wp P Q a w :=
 (congrArg (fun c : Code => c.wp P Q a w) hs).mpr (wp_seq (wp_skip h))
theorem jumps_less {J : Nat → Act → World → Prop} {M : Nat → Act → Nat} {N : Nat} {Q : Exit → Act → World → Prop} : ∀ e a w, Exit.jumps (fun l a w => J l a w ∧ M l a < N) Q e a w → Exit.jumps J Q e a w
 | .goto _, _, _, h => h.1
 | .normal, _, _, h => h
 | .exit _, _, _, h => h
 | .ret, _, _, h => h
 | .panic _, _, _, h => h
 | .outgrown, _, _, h => h
/-- the relation of the three labels: done 0, look 1, next 2 -/
def ldJ (p m inv : Nat) (a b : Nat → Nat) (w : World) (l : Nat) (a' : Act) (w' : World) : Prop :=
 ∃ (t : Nat) (v9 : Value) (v12 : Int) (u13 u14 u15 u16 u17 u18 u19 u20 u21 u22 u23 u24 u25 u26 u27 u28 u29 u30 u31 u32 u33 u34 u35 u36 u37 u38 u39 u40 u41 u42 u43 u44 u45 u46 u47 u48 u49 u50 u51 u52 u53 u54 u55 u56 u57 u58 u59 u60 u61 u62 u63 u64 u65 u66 u67 u68 u69 u70 u71 u72 u73 u74 u75 u76 u77 : Value), a' = { tmps := #[.int .i64 (p : Int), .agg (zb 128 a), .agg (zb 64 b), undef, .pointer (some ⟨w.heap.size, 0, none⟩), .pointer (some ⟨w.heap.size + 1, 0, none⟩), .pointer (some ⟨w.heap.size + 1 + 1, 0, none⟩), .pointer (some ⟨w.heap.size + 1 + 1 + 1, 0, none⟩), .pointer (some ⟨w.heap.size + 1 + 1 + 1 + 1, 0, none⟩), v9, .int .i64 (m : Int), .int .u8 (inv : Int), .int .i64 v12, u13, u14, u15, u16, u17, u18, u19, u20, u21, u22, u23, u24, u25, u26, u27, u28, u29, u30, u31, u32, u33, u34, u35, u36, u37, u38, u39, u40, u41, u42, u43, u44, u45, u46, u47, u48, u49, u50, u51, u52, u53, u54, u55, u56, u57, u58, u59, u60, u61, u62, u63, u64, u65, u66, u67, u68, u69, u70, u71, u72, u73, u74, u75, u76, u77], defers := [] } ∧ Below w.heap.size w w' ∧ Blk w' w.heap.size 128 142 (dS p inv m b a (128 - t)) ∧ Blk w' (w.heap.size + 1) 64 25 b ∧ Blk w' (w.heap.size + 1 + 1) 128 142 (fun _ => 0) ∧ Blk w' (w.heap.size + 1 + 1 + 1) 64 25 (fun _ => 0) ∧ Blk w' (w.heap.size + 1 + 1 + 1 + 1) 128 142 (qS p inv m b a (128 - t)) ∧ m ≤ t ∧ t ≤ 128 ∧ ((l = 1 ∧ v12 = (t : Int) - 1) ∨ (l = 2 ∧ v12 = (t : Int) ∧ t ≤ 127) ∨ (l = 0 ∧ t = m))
def ldM (l : Nat) (a' : Act) : Nat := 3 * (intOf (a'.tmps.getD 12 undef) + 1).toNat + (if l = 1 then 2 else if l = 2 then 1 else 0)
set_option maxRecDepth 100000 in
set_option maxHeartbeats 1600000 in
theorem ld_next (p m inv : Nat) (a b : Nat → Nat) (w : World) (v9 : Value) (u13 u14 u15 u16 u17 u18 u19 u20 u21 u22 u23 u24 u25 u26 u27 u28 u29 u30 u31 u32 u33 u34 u35 u36 u37 u38 u39 u40 u41 u42 u43 u44 u45 u46 u47 u48 u49 u50 u51 u52 u53 u54 u55 u56 u57 u58 u59 u60 u61 u62 u63 u64 u65 u66 u67 u68 u69 u70 u71 u72 u73 u74 u75 u76 u77 : Value) (t : Nat) (wr : World) (Q : Exit → Act → World → Prop) (hb : Below w.heap.size w wr) (b0 : Blk wr w.heap.size 128 142 (dS p inv m b a (128 - t))) (b1 : Blk wr (w.heap.size + 1) 64 25 b) (b2 : Blk wr (w.heap.size + 1 + 1) 128 142 (fun _ => 0)) (b3 : Blk wr (w.heap.size + 1 + 1 + 1) 64 25 (fun _ => 0)) (b4 : Blk wr (w.heap.size + 1 + 1 + 1 + 1) 128 142 (qS p inv m b a (128 - t))) (h1 : m ≤ t) (h2 : t ≤ 127) :
 (behind Try.f188 2).wp Try.prog (Exit.jumps (fun l' a' w' => ldJ p m inv a b w l' a' w' ∧ ldM l' a' < 3 * (t + 1) + 1) Q) { tmps := #[.int .i64 (p : Int), .agg (zb 128 a), .agg (zb 64 b), undef, .pointer (some ⟨w.heap.size, 0, none⟩), .pointer (some ⟨w.heap.size + 1, 0, none⟩), .pointer (some ⟨w.heap.size + 1 + 1, 0, none⟩), .pointer (some ⟨w.heap.size + 1 + 1 + 1, 0, none⟩), .pointer (some ⟨w.heap.size + 1 + 1 + 1 + 1, 0, none⟩), v9, .int .i64 (m : Int), .int .u8 (inv : Int), .int .i64 (t : Int), u13, u14, u15, u16, u17, u18, u19, u20, u21, u22, u23, u24, u25, u26, u27, u28, u29, u30, u31, u32, u33, u34, u35, u36, u37, u38, u39, u40, u41, u42, u43, u44, u45, u46, u47, u48, u49, u50, u51, u52, u53, u54, u55, u56, u57, u58, u59, u60, u61, u62, u63, u64, u65, u66, u67, u68, u69, u70, u71, u72, u73, u74, u75, u76, u77], defers := [] } wr := by
 simp only [tailOf, behind, Try.f188, Option.bind_some, scopeIn, Option.getD_some, findLabel, Nat.reduceBEq, if_true, if_false, Bool.false_eq_true, beq_self_eq_true]
 go_wp2_with fail
 go_step3
 refine ⟨⟨t, _, _, _, _, _, _, _, _, _, _, _, _, _, _, _, _, _, _, _, _, _, _, _, _, _, _, _, _, _, _, _, _, _, _, _, _, _, _, _, _, _, _, _, _, _, _, _, _, _, _, _, _, _, _, _, _, _, _, _, _, _, _, _, _, _, _, _, rfl, hb, b0, b1, b2, b3, b4, h1, by omega, Or.inl ⟨rfl, rfl⟩⟩, ?_⟩
 simp [ldM, intOf] <;> omega
set_option maxRecDepth 100000 in
set_option maxHeartbeats 1600000 in
theorem ld_stop (p m inv : Nat) (a b : Nat → Nat) (w : World) (v9 : Value) (u13 u14 u15 u16 u17 u18 u19 u20 u21 u22 u23 u24 u25 u26 u27 u28 u29 u30 u31 u32 u33 u34 u35 u36 u37 u38 u39 u40 u41 u42 u43 u44 u45 u46 u47 u48 u49 u50 u51 u52 u53 u54 u55 u56 u57 u58 u59 u60 u61 u62 u63 u64 u65 u66 u67 u68 u69 u70 u71 u72 u73 u74 u75 u76 u77 : Value) (wr : World) (Q : Exit → Act → World → Prop) (hb : Below w.heap.size w wr) (b0 : Blk wr w.heap.size 128 142 (dS p inv m b a (128 - m))) (b1 : Blk wr (w.heap.size + 1) 64 25 b) (b2 : Blk wr (w.heap.size + 1 + 1) 128 142 (fun _ => 0)) (b3 : Blk wr (w.heap.size + 1 + 1 + 1) 64 25 (fun _ => 0)) (b4 : Blk wr (w.heap.size + 1 + 1 + 1 + 1) 128 142 (qS p inv m b a (128 - m))) (h1 : m ≤ 128) :
 (behind Try.f188 1).wp Try.prog (Exit.jumps (fun l' a' w' => ldJ p m inv a b w l' a' w' ∧ ldM l' a' < 3 * m + 2) Q) { tmps := #[.int .i64 (p : Int), .agg (zb 128 a), .agg (zb 64 b), undef, .pointer (some ⟨w.heap.size, 0, none⟩), .pointer (some ⟨w.heap.size + 1, 0, none⟩), .pointer (some ⟨w.heap.size + 1 + 1, 0, none⟩), .pointer (some ⟨w.heap.size + 1 + 1 + 1, 0, none⟩), .pointer (some ⟨w.heap.size + 1 + 1 + 1 + 1, 0, none⟩), v9, .int .i64 (m : Int), .int .u8 (inv : Int), .int .i64 ((m : Int) - 1), u13, u14, u15, u16, u17, u18, u19, u20, u21, u22, u23, u24, u25, u26, u27, u28, u29, u30, u31, u32, u33, u34, u35, u36, u37, u38, u39, u40, u41, u42, u43, u44, u45, u46, u47, u48, u49, u50, u51, u52, u53, u54, u55, u56, u57, u58, u59, u60, u61, u62, u63, u64, u65, u66, u67, u68, u69, u70, u71, u72, u73, u74, u75, u76, u77], defers := [] } wr := by
 simp only [tailOf, behind, Try.f188, Option.bind_some, scopeIn, Option.getD_some, findLabel, Nat.reduceBEq, if_true, if_false, Bool.false_eq_true, beq_self_eq_true]
 go_wp2_with fail
 go_step3
 refine ⟨⟨m, _, _, _, _, _, _, _, _, _, _, _, _, _, _, _, _, _, _, _, _, _, _, _, _, _, _, _, _, _, _, _, _, _, _, _, _, _, _, _, _, _, _, _, _, _, _, _, _, _, _, _, _, _, _, _, _, _, _, _, _, _, _, _, _, _, _, _, rfl, hb, b0, b1, b2, b3, b4, by omega, by omega, Or.inr (Or.inr ⟨rfl, rfl⟩)⟩, ?_⟩
 simp [ldM, intOf]
set_option maxRecDepth 100000 in
set_option maxHeartbeats 1600000 in
theorem ld_zero (p m inv : Nat) (a b : Nat → Nat) (w : World) (v9 : Value) (u13 u14 u15 u16 u17 u18 u19 u20 u21 u22 u23 u24 u25 u26 u27 u28 u29 u30 u31 u32 u33 u34 u35 u36 u37 u38 u39 u40 u41 u42 u43 u44 u45 u46 u47 u48 u49 u50 u51 u52 u53 u54 u55 u56 u57 u58 u59 u60 u61 u62 u63 u64 u65 u66 u67 u68 u69 u70 u71 u72 u73 u74 u75 u76 u77 : Value) (j : Nat) (wr : World) (Q : Exit → Act → World → Prop) (A : Nat → Nat) (hb : Below w.heap.size w wr) (b0 : Blk wr w.heap.size 128 142 A) (b1 : Blk wr (w.heap.size + 1) 64 25 b) (b2 : Blk wr (w.heap.size + 1 + 1) 128 142 (fun _ => 0)) (b3 : Blk wr (w.heap.size + 1 + 1 + 1) 64 25 (fun _ => 0)) (b4 : Blk wr (w.heap.size + 1 + 1 + 1 + 1) 128 142 (qS p inv m b a (127 - j))) (h1 : m ≤ j) (h2 : j ≤ 127)
 (hA : A = dS p inv m b a (127 - j)) (hAp : ∀ k, k < 128 → A k < p) (h0 : A j = 0) :
 (tailOf (behind Try.f188 1)).wp Try.prog (Exit.jumps (fun l' a' w' => ldJ p m inv a b w l' a' w' ∧ ldM l' a' < 3 * (j + 1) + 2) Q) { tmps := #[.int .i64 (p : Int), .agg (zb 128 a), .agg (zb 64 b), undef, .pointer (some ⟨w.heap.size, 0, none⟩), .pointer (some ⟨w.heap.size + 1, 0, none⟩), .pointer (some ⟨w.heap.size + 1 + 1, 0, none⟩), .pointer (some ⟨w.heap.size + 1 + 1 + 1, 0, none⟩), .pointer (some ⟨w.heap.size + 1 + 1 + 1 + 1, 0, none⟩), v9, .int .i64 (m : Int), .int .u8 (inv : Int), .int .i64 (j : Int), u13, u14, u15, u16, u17, u18, u19, u20, u21, u22, u23, u24, u25, u26, u27, u28, u29, u30, u31, u32, u33, u34, u35, u36, u37, u38, u39, u40, u41, u42, u43, u44, u45, u46, u47, u48, u49, u50, u51, u52, u53, u54, u55, u56, u57, u58, u59, u60, u61, u62, u63, u64, u65, u66, u67, u68, u69, u70, u71, u72, u73, u74, u75, u76, u77], defers := [] } wr := by
 have HN := Lib.hid (show ∀ k, stp p inv m b j A k = dS p inv m b a (128 - j) k by
  intro k; rw [show 128 - j = 127 - j + 1 by omega, dS_succ, show 127 - (127 - j) = j by omega, hA])
 have HS := Lib.hid (show ∀ k, qS p inv m b a (127 - j) k = qS p inv m b a (128 - j) k by
  intro k
  rw [show 128 - j = 127 - j + 1 by omega]
  exact (qS_skip (p := p) (inv := inv) (m := m) b a (i := 127 - j) (by omega) (by rw [show 127 - (127 - j) = j by omega, ← hA]; exact h0) k).symm)
 have HAP := Lib.hid hAp
 have H0 := Lib.hid h0
 have c0 := b0.cell (i := j) (by omega)
 rw [h0] at c0
 clear hA hAp h0
 simp only [tailOf, behind, Try.f188, Option.bind_some, scopeIn, Option.getD_some, findLabel, Nat.reduceBEq, if_true, if_false, Bool.false_eq_true, beq_self_eq_true]
 go_wp2_with fail
 go_step3
 refine ⟨⟨j, _, _, _, _, _, _, _, _, _, _, _, _, _, _, _, _, _, _, _, _, _, _, _, _, _, _, _, _, _, _, _, _, _, _, _, _, _, _, _, _, _, _, _, _, _, _, _, _, _, _, _, _, _, _, _, _, _, _, _, _, _, _, _, _, _, _, _, rfl, hb, b0.congr (fun k hk => by rw [← HN.out k]; exact (stp_skip HAP.out H0.out hk).symm), b1, b2, b3, b4.congr (fun k _ => HS.out k), h1, by omega, Or.inr (Or.inl ⟨rfl, rfl, h2⟩)⟩, ?_⟩
 simp [ldM, intOf]
set_option maxRecDepth 100000 in
set_option maxHeartbeats 3200000 in
theorem ld_take (p m inv : Nat) (a b : Nat → Nat) (w : World) (v9 : Value) (u13 u14 u15 u16 u17 u18 u19 u20 u21 u22 u23 u24 u25 u26 u27 u28 u29 u30 u31 u32 u33 u34 u35 u36 u37 u38 u39 u40 u41 u42 u43 u44 u45 u46 u47 u48 u49 u50 u51 u52 u53 u54 u55 u56 u57 u58 u59 u60 u61 u62 u63 u64 u65 u66 u67 u68 u69 u70 u71 u72 u73 u74 u75 u76 u77 : Value) (j : Nat) (wr : World) (Q : Exit → Act → World → Prop) (A : Nat → Nat) (hb : Below w.heap.size w wr) (b0 : Blk wr w.heap.size 128 142 A) (b1 : Blk wr (w.heap.size + 1) 64 25 b) (b2 : Blk wr (w.heap.size + 1 + 1) 128 142 (fun _ => 0)) (b3 : Blk wr (w.heap.size + 1 + 1 + 1) 64 25 (fun _ => 0)) (b4 : Blk wr (w.heap.size + 1 + 1 + 1 + 1) 128 142 (qS p inv m b a (127 - j))) (h1 : m ≤ j) (h2 : j ≤ 127)
 (hA : A = dS p inv m b a (127 - j)) (hAp : ∀ k, k < 128 → A k < p) (h0 : A j ≠ 0) (p2 : 2 ≤ p) (p7 : p ≤ 7) (hi7 : inv < p) (hbp : ∀ k, k < 64 → b k < p) (hm6 : m < 64) :
 (tailOf (behind Try.f188 1)).wp Try.prog (Exit.jumps (fun l' a' w' => ldJ p m inv a b w l' a' w' ∧ ldM l' a' < 3 * (j + 1) + 2) Q) { tmps := #[.int .i64 (p : Int), .agg (zb 128 a), .agg (zb 64 b), undef, .pointer (some ⟨w.heap.size, 0, none⟩), .pointer (some ⟨w.heap.size + 1, 0, none⟩), .pointer (some ⟨w.heap.size + 1 + 1, 0, none⟩), .pointer (some ⟨w.heap.size + 1 + 1 + 1, 0, none⟩), .pointer (some ⟨w.heap.size + 1 + 1 + 1 + 1, 0, none⟩), v9, .int .i64 (m : Int), .int .u8 (inv : Int), .int .i64 (j : Int), u13, u14, u15, u16, u17, u18, u19, u20, u21, u22, u23, u24, u25, u26, u27, u28, u29, u30, u31, u32, u33, u34, u35, u36, u37, u38, u39, u40, u41, u42, u43, u44, u45, u46, u47, u48, u49, u50, u51, u52, u53, u54, u55, u56, u57, u58, u59, u60, u61, u62, u63, u64, u65, u66, u67, u68, u69, u70, u71, u72, u73, u74, u75, u76, u77], defers := [] } wr := by
 have HN := Lib.hid (show ∀ k, stp p inv m b j A k = dS p inv m b a (128 - j) k by
  intro k; rw [show 128 - j = 127 - j + 1 by omega, dS_succ, show 127 - (127 - j) = j by omega, hA])
 have HQ := Lib.hid (show ∀ k, upd (qS p inv m b a (127 - j)) (j - m) (A j * inv % p) k = qS p inv m b a (128 - j) k by
  intro k
  have := qS_next (p := p) (inv := inv) b a (i := 127 - j) (m := m) (by omega) k
  rw [show 127 - (127 - j) = j by omega, ← hA] at this
  rw [show 128 - j = 127 - j + 1 by omega]
  exact this)
 have HAP := Lib.hid hAp
 have HB := Lib.hid hbp
 have hjA : A j < p := hAp j (by omega)
 have c0 := b0.cell (i := j) (by omega)
 have h0' : (A j : Int) ≠ 0 := by omega
 obtain ⟨m1, m2⟩ := small_nat_mul p7 hjA hi7
 obtain ⟨τ, hτ⟩ : ∃ τ : Nat, τ = A j * inv % p := ⟨_, rfl⟩
 have hτp : τ < p := by rw [hτ]; exact Nat.mod_lt _ (by omega)
 have hτe : (A j : Int) * (inv : Int) % (p : Int) = (τ : Int) := by rw [hτ]; push_cast; rfl
 have HT := Lib.hid hτ
 have hjm : ((j : Int) - (m : Int)).toNat = j - m := by omega
 have z4 := b4.frozen (j - m)
 have c4 := b4.cell (i := j - m) (by omega)
 clear hA hAp h0 hτ hbp
 simp only [tailOf, behind, Try.f188, Option.bind_some, scopeIn, Option.getD_some, findLabel, Nat.reduceBEq, if_true, if_false, Bool.false_eq_true, beq_self_eq_true]
 go_wp2_with fail
 rw [hτe]
 simp only [show decide (j < m) = false by simp <;> omega, show ((A j : Int) == 0) = false by simp <;> omega]
 have b4q : Blk (wr.setCell ⟨w.heap.size + 1 + 1 + 1 + 1, j - m, none⟩ (.int .u8 (τ : Int))) (w.heap.size + 1 + 1 + 1 + 1) 128 142 (qS p inv m b a (128 - j)) := (b4.set rfl).congr (fun k _ => by rw [← HQ.out k, HT.out])
 have hbq : Below w.heap.size w (wr.setCell ⟨w.heap.size + 1 + 1 + 1 + 1, j - m, none⟩ (.int .u8 (τ : Int))) := hb.setCell (by simp; omega) _
 have b0q := (b0.congr (fun k _ => (stpr_zero p inv m b j A k).symm)).setOther (a := ⟨w.heap.size + 1 + 1 + 1 + 1, j - m, none⟩) (v := .int .u8 (τ : Int)) (by simp <;> omega)
 have b1q := b1.setOther (a := ⟨w.heap.size + 1 + 1 + 1 + 1, j - m, none⟩) (v := .int .u8 (τ : Int)) (by simp <;> omega)
 have b2q := b2.setOther (a := ⟨w.heap.size + 1 + 1 + 1 + 1, j - m, none⟩) (v := .int .u8 (τ : Int)) (by simp <;> omega)
 have b3q := b3.setOther (a := ⟨w.heap.size + 1 + 1 + 1 + 1, j - m, none⟩) (v := .int .u8 (τ : Int)) (by simp <;> omega)
 obtain ⟨w5, hw5⟩ : ∃ w5, w5 = wr.setCell ⟨w.heap.size + 1 + 1 + 1 + 1, j - m, none⟩ (.int .u8 (τ : Int)) := ⟨_, rfl⟩
 rw [← hw5] at b4q hbq b0q b1q b2q b3q ⊢
 clear hw5 hb b0 b1 b2 b3 b4 c0 c4 z4 hτe m1 m2 h0' hjm
 go_loopw [43] (fun c wr => ∃ i : Nat, i ≤ m + 1 ∧ c = .int .i64 (i : Int) ∧ Below w.heap.size w wr ∧ Blk wr w.heap.size 128 142 (stpr p inv m b j A i) ∧ Blk wr (w.heap.size + 1) 64 25 b ∧ Blk wr (w.heap.size + 1 + 1) 128 142 (fun _ => 0) ∧ Blk wr (w.heap.size + 1 + 1 + 1) 64 25 (fun _ => 0) ∧ Blk wr (w.heap.size + 1 + 1 + 1 + 1) 128 142 (qS p inv m b a (128 - j))) (fun c _ => m + 1 - (intOf c).toNat)
 case atStart => exact ⟨0, by omega, rfl, hbq, b0q, b1q, b2q, b3q, b4q⟩
 case round =>
  clear hbq b0q b1q b2q b3q b4q
  obtain ⟨i, hi, rfl, hb, b0, b1, b2, b3, b4⟩ := hrel
  by_cases hlt : i < m + 1
  · have v1 := HAP.out (j - m + i) (by omega)
    have v2 := HB.out i (by omega)
    have hji : ((j : Int) - (m : Int) + (i : Int)).toNat = j - m + i := by omega
    have hc : ((p - A j * inv % p : Nat) : Int) = (p : Int) - (τ : Int) := by rw [← HT.out]; omega
    have HE := Lib.hid (show ((A (j - m + i) : Int) + ((p : Int) - (τ : Int)) * (b i : Int)) % (p : Int) = (((A (j - m + i) + (p - A j * inv % p) * b i) % p : Nat) : Int) by rw [Int.natCast_emod, Int.natCast_add, Int.natCast_mul, hc])
    have m3 : 0 ≤ ((p : Int) - (τ : Int)) * (b i : Int) := Int.mul_nonneg (by omega) (by omega)
    have m4 : ((p : Int) - (τ : Int)) * (b i : Int) ≤ 42 := by
     have : ((p : Int) - (τ : Int)) * (b i : Int) ≤ 7 * 6 := Int.mul_le_mul (by omega) (by omega) (by omega) (by omega)
     omega
    clear hc
    go_wp2_with fail
    simp only [show decide ((i : Int) < (m : Int) + 1) = true by simp <;> omega]
    have lt_b0 : (w.heap.size) < wr.heap.size := b0.lt
    have lt_b1 : (w.heap.size + 1) < wr.heap.size := b1.lt
    have lt_b2 : (w.heap.size + 1 + 1) < wr.heap.size := b2.lt
    have lt_b3 : (w.heap.size + 1 + 1 + 1) < wr.heap.size := b3.lt
    have lt_b4 : (w.heap.size + 1 + 1 + 1 + 1) < wr.heap.size := b4.lt
    have hbase : w.heap.size ≤ wr.heap.size := hb.size
    refine zq Try.mixed (by kernel_rfl) (by kernel_rfl) (fun v => by (simp only [frL, Act.put, pA, pB, pC, Nat.reduceAdd, Nat.zero_add]; exact rfl))
     (fun L v wx => Below w.heap.size w wx ∧ wr.heap.size ≤ wx.heap.size ∧ (∃ g, Blk wx (w.heap.size) 128 142 (g)) ∧ (L 25 = false → Blk wx (w.heap.size) 128 142 (stpr p inv m b j A i)) ∧ (L 25 = true → Blk wx (w.heap.size) 128 142 (stpr p inv m b j A (i + 1))) ∧ Blk wx (w.heap.size + 1) 64 25 (b) ∧ Blk wx (w.heap.size + 1 + 1) 128 142 (fun _ => 0) ∧ Blk wx (w.heap.size + 1 + 1 + 1) 64 25 (fun _ => 0) ∧ Blk wx (w.heap.size + 1 + 1 + 1 + 1) 128 142 (qS p inv m b a (128 - j)) ∧ (L 0 = true → v 0 = (.int .i64 (j : Int))) ∧ (L 1 = true → v 1 = (.int .i64 (m : Int))) ∧ (L 2 = true → v 2 = (.int .i64 ((j : Int) - (m : Int)))) ∧ (L 3 = true → v 3 = (.int .i64 (i : Int))) ∧ (L 4 = true → v 4 = (.int .i64 ((j : Int) - (m : Int) + (i : Int)))) ∧ (L 5 = true → v 5 = (.int .i64 (j : Int))) ∧ (L 6 = true → v 6 = (.int .i64 (m : Int))) ∧ (L 7 = true → v 7 = (.int .i64 ((j : Int) - (m : Int)))) ∧ (L 8 = true → v 8 = (.int .i64 (i : Int))) ∧ (L 9 = true → v 9 = (.int .i64 ((j : Int) - (m : Int) + (i : Int)))) ∧ (L 10 = true → v 10 = (.pointer (some ⟨w.heap.size, j - m + i, none⟩))) ∧ (L 11 = true → v 11 = (.int .u8 (A (j - m + i) : Int))) ∧ (L 12 = true → v 12 = (.int .i64 (p : Int))) ∧ (L 13 = true → v 13 = (.int .u8 (p : Int))) ∧ (L 14 = true → v 14 = (.int .u8 (τ : Int))) ∧ (L 15 = true → v 15 = (.int .u8 ((p : Int) - (τ : Int)))) ∧ (L 16 = true → v 16 = (.int .i64 (i : Int))) ∧ (L 17 = true → v 17 = (.pointer (some ⟨w.heap.size + 1, i, none⟩))) ∧ (L 18 = true → v 18 = (.int .u8 (b i : Int))) ∧ (L 19 = true → v 19 = (.int .u8 (((p : Int) - (τ : Int)) * (b i : Int)))) ∧ (L 20 = true → v 20 = (.int .u8 ((A (j - m + i) : Int) + (((p : Int) - (τ : Int)) * (b i : Int))))) ∧ (L 21 = true → v 21 = (.int .i64 (p : Int))) ∧ (L 22 = true → v 22 = (.int .u8 (p : Int))) ∧ (L 23 = true → v 23 = (.int .u8 (((A (j - m + i) : Int) + (((p : Int) - (τ : Int)) * (b i : Int))) % (p : Int)))) ∧ (L 24 = true → v 24 = (.pointer (some ⟨w.heap.size, j - m + i, none⟩)))) ?_ ?_ ?_
    · intro v hv0
      exact ⟨hb.drew, Nat.le_refl _, ⟨_, b0.drew⟩, (fun _ => b0.drew), (fun h => by cases h), b1.drew, b2.drew, b3.drew, b4.drew, (fun h => by cases h), (fun h => by cases h), (fun h => by cases h), (fun h => by cases h), (fun h => by cases h), (fun h => by cases h), (fun h => by cases h), (fun h => by cases h), (fun h => by cases h), (fun h => by cases h), (fun h => by cases h), (fun h => by cases h), (fun h => by cases h), (fun h => by cases h), (fun h => by cases h), (fun h => by cases h), (fun h => by cases h), (fun h => by cases h), (fun h => by cases h), (fun h => by cases h), (fun h => by cases h), (fun h => by cases h), (fun h => by cases h), (fun h => by cases h), (fun h => by cases h)⟩
    · refine (.cons rfl ?_ (.cons rfl ?_ (.cons rfl ?_ (.cons rfl ?_ (.cons rfl ?_ (.cons rfl ?_ (.cons rfl ?_ (.cons rfl ?_ (.cons rfl ?_ (.cons rfl ?_ (.cons rfl ?_ (.cons rfl ?_ (.cons rfl ?_ (.cons rfl ?_ (.cons rfl ?_ (.cons rfl ?_ (.cons rfl ?_ (.cons rfl ?_ (.cons rfl ?_ (.cons rfl ?_ (.cons rfl ?_ (.cons rfl ?_ (.cons rfl ?_ (.cons rfl ?_ (.cons rfl ?_ (.cons rfl ?_ (.nil _)))))))))))))))))))))))))))
      all_goals intro L v wx hd hn ⟨hB, hz, x0, q0, n0, s1, s2, s3, s4, h0, h1, h2, h3, h4, h5, h6, h7, h8, h9, h10, h11, h12, h13, h14, h15, h16, h17, h18, h19, h20, h21, h22, h23, h24⟩ K hK
      · go_wp2_with fail
        exact hK _ (.int .i64 (j : Int)) _ (by simp only [Act.put, pA, pB, pC ]) ⟨hB, hz, x0, q0, n0, s1, s2, s3, s4, (fun _ => rfl), h1, h2, h3, h4, h5, h6, h7, h8, h9, h10, h11, h12, h13, h14, h15, h16, h17, h18, h19, h20, h21, h22, h23, h24⟩
      · go_wp2_with fail
        exact hK _ (.int .i64 (m : Int)) _ (by simp only [Act.put, pA, pB, pC ]) ⟨hB, hz, x0, q0, n0, s1, s2, s3, s4, h0, (fun _ => rfl), h2, h3, h4, h5, h6, h7, h8, h9, h10, h11, h12, h13, h14, h15, h16, h17, h18, h19, h20, h21, h22, h23, h24⟩
      · have e0 := h0 (zdq hd 0 rfl)
        have e1 := h1 (zdq hd 1 rfl)
        go_wp2_with fail
        exact hK _ (.int .i64 ((j : Int) - (m : Int))) _ (by simp only [Act.put, pA, pB, pC, e0, e1]) ⟨hB, hz, x0, q0, n0, s1, s2, s3, s4, h0, h1, (fun _ => rfl), h3, h4, h5, h6, h7, h8, h9, h10, h11, h12, h13, h14, h15, h16, h17, h18, h19, h20, h21, h22, h23, h24⟩
      · go_wp2_with fail
        exact hK _ (.int .i64 (i : Int)) _ (by simp only [Act.put, pA, pB, pC ]) ⟨hB, hz, x0, q0, n0, s1, s2, s3, s4, h0, h1, h2, (fun _ => rfl), h4, h5, h6, h7, h8, h9, h10, h11, h12, h13, h14, h15, h16, h17, h18, h19, h20, h21, h22, h23, h24⟩
      · have e2 := h2 (zdq hd 2 rfl)
        have e3 := h3 (zdq hd 3 rfl)
        go_wp2_with fail
        exact hK _ (.int .i64 ((j : Int) - (m : Int) + (i : Int))) _ (by simp only [Act.put, pA, pB, pC, e2, e3]) ⟨hB, hz, x0, q0, n0, s1, s2, s3, s4, h0, h1, h2, h3, (fun _ => rfl), h5, h6, h7, h8, h9, h10, h11, h12, h13, h14, h15, h16, h17, h18, h19, h20, h21, h22, h23, h24⟩
      · go_wp2_with fail
        exact hK _ (.int .i64 (j : Int)) _ (by simp only [Act.put, pA, pB, pC ]) ⟨hB, hz, x0, q0, n0, s1, s2, s3, s4, h0, h1, h2, h3, h4, (fun _ => rfl), h6, h7, h8, h9, h10, h11, h12, h13, h14, h15, h16, h17, h18, h19, h20, h21, h22, h23, h24⟩
      · go_wp2_with fail
        exact hK _ (.int .i64 (m : Int)) _ (by simp only [Act.put, pA, pB, pC ]) ⟨hB, hz, x0, q0, n0, s1, s2, s3, s4, h0, h1, h2, h3, h4, h5, (fun _ => rfl), h7, h8, h9, h10, h11, h12, h13, h14, h15, h16, h17, h18, h19, h20, h21, h22, h23, h24⟩
      · have e5 := h5 (zdq hd 5 rfl)
        have e6 := h6 (zdq hd 6 rfl)
        go_wp2_with fail
        exact hK _ (.int .i64 ((j : Int) - (m : Int))) _ (by simp only [Act.put, pA, pB, pC, e5, e6]) ⟨hB, hz, x0, q0, n0, s1, s2, s3, s4, h0, h1, h2, h3, h4, h5, h6, (fun _ => rfl), h8, h9, h10, h11, h12, h13, h14, h15, h16, h17, h18, h19, h20, h21, h22, h23, h24⟩
      · go_wp2_with fail
        exact hK _ (.int .i64 (i : Int)) _ (by simp only [Act.put, pA, pB, pC ]) ⟨hB, hz, x0, q0, n0, s1, s2, s3, s4, h0, h1, h2, h3, h4, h5, h6, h7, (fun _ => rfl), h9, h10, h11, h12, h13, h14, h15, h16, h17, h18, h19, h20, h21, h22, h23, h24⟩
      · have e7 := h7 (zdq hd 7 rfl)
        have e8 := h8 (zdq hd 8 rfl)
        go_wp2_with fail
        exact hK _ (.int .i64 ((j : Int) - (m : Int) + (i : Int))) _ (by simp only [Act.put, pA, pB, pC, e7, e8]) ⟨hB, hz, x0, q0, n0, s1, s2, s3, s4, h0, h1, h2, h3, h4, h5, h6, h7, h8, (fun _ => rfl), h10, h11, h12, h13, h14, h15, h16, h17, h18, h19, h20, h21, h22, h23, h24⟩
      · have e9 := h9 (zdq hd 9 rfl)
        go_wp2_with fail
        exact hK _ (.pointer (some ⟨w.heap.size, j - m + i, none⟩)) _ (by simp only [Act.put, pA, pB, pC, e9]) ⟨hB, hz, x0, q0, n0, s1, s2, s3, s4, h0, h1, h2, h3, h4, h5, h6, h7, h8, h9, (fun _ => rfl), h11, h12, h13, h14, h15, h16, h17, h18, h19, h20, h21, h22, h23, h24⟩
      · have e10 := h10 (zdq hd 10 rfl)
        have s0 := q0 (by
         cases hL : L 25 with
         | false => rfl
         | true => exact absurd rfl (hn 25 _ rfl hL ⟨11, .phase⟩ (by simp) rfl))
        have cc := s0.cell (i := j - m + i) (by omega)
        rw [stpr_at] at cc
        go_wp2_with fail
        exact hK _ (.int .u8 (A (j - m + i) : Int)) _ (by simp only [Act.put, pA, pB, pC, e10]) ⟨hB, hz, x0, q0, n0, s1, s2, s3, s4, h0, h1, h2, h3, h4, h5, h6, h7, h8, h9, h10, (fun _ => rfl), h12, h13, h14, h15, h16, h17, h18, h19, h20, h21, h22, h23, h24⟩
      · go_wp2_with fail
        exact hK _ (.int .i64 (p : Int)) _ (by simp only [Act.put, pA, pB, pC ]) ⟨hB, hz, x0, q0, n0, s1, s2, s3, s4, h0, h1, h2, h3, h4, h5, h6, h7, h8, h9, h10, h11, (fun _ => rfl), h13, h14, h15, h16, h17, h18, h19, h20, h21, h22, h23, h24⟩
      · have e12 := h12 (zdq hd 12 rfl)
        go_wp2_with fail
        exact hK _ (.int .u8 (p : Int)) _ (by simp only [Act.put, pA, pB, pC, e12]) ⟨hB, hz, x0, q0, n0, s1, s2, s3, s4, h0, h1, h2, h3, h4, h5, h6, h7, h8, h9, h10, h11, h12, (fun _ => rfl), h14, h15, h16, h17, h18, h19, h20, h21, h22, h23, h24⟩
      · go_wp2_with fail
        exact hK _ (.int .u8 (τ : Int)) _ (by simp only [Act.put, pA, pB, pC ]) ⟨hB, hz, x0, q0, n0, s1, s2, s3, s4, h0, h1, h2, h3, h4, h5, h6, h7, h8, h9, h10, h11, h12, h13, (fun _ => rfl), h15, h16, h17, h18, h19, h20, h21, h22, h23, h24⟩
      · have e13 := h13 (zdq hd 13 rfl)
        have e14 := h14 (zdq hd 14 rfl)
        go_wp2_with fail
        exact hK _ (.int .u8 ((p : Int) - (τ : Int))) _ (by simp only [Act.put, pA, pB, pC, e13, e14]) ⟨hB, hz, x0, q0, n0, s1, s2, s3, s4, h0, h1, h2, h3, h4, h5, h6, h7, h8, h9, h10, h11, h12, h13, h14, (fun _ => rfl), h16, h17, h18, h19, h20, h21, h22, h23, h24⟩
      · go_wp2_with fail
        exact hK _ (.int .i64 (i : Int)) _ (by simp only [Act.put, pA, pB, pC ]) ⟨hB, hz, x0, q0, n0, s1, s2, s3, s4, h0, h1, h2, h3, h4, h5, h6, h7, h8, h9, h10, h11, h12, h13, h14, h15, (fun _ => rfl), h17, h18, h19, h20, h21, h22, h23, h24⟩
      · have e16 := h16 (zdq hd 16 rfl)
        go_wp2_with fail
        exact hK _ (.pointer (some ⟨w.heap.size + 1, i, none⟩)) _ (by simp only [Act.put, pA, pB, pC, e16]) ⟨hB, hz, x0, q0, n0, s1, s2, s3, s4, h0, h1, h2, h3, h4, h5, h6, h7, h8, h9, h10, h11, h12, h13, h14, h15, h16, (fun _ => rfl), h18, h19, h20, h21, h22, h23, h24⟩
      · have e17 := h17 (zdq hd 17 rfl)
        have cc := s1.cell (i := i) (by omega)
        go_wp2_with fail
        exact hK _ (.int .u8 (b i : Int)) _ (by simp only [Act.put, pA, pB, pC, e17]) ⟨hB, hz, x0, q0, n0, s1, s2, s3, s4, h0, h1, h2, h3, h4, h5, h6, h7, h8, h9, h10, h11, h12, h13, h14, h15, h16, h17, (fun _ => rfl), h19, h20, h21, h22, h23, h24⟩
      · have e15 := h15 (zdq hd 15 rfl)
        have e18 := h18 (zdq hd 18 rfl)
        go_wp2_with fail
        exact hK _ (.int .u8 (((p : Int) - (τ : Int)) * (b i : Int))) _ (by simp only [Act.put, pA, pB, pC, e15, e18]) ⟨hB, hz, x0, q0, n0, s1, s2, s3, s4, h0, h1, h2, h3, h4, h5, h6, h7, h8, h9, h10, h11, h12, h13, h14, h15, h16, h17, h18, (fun _ => rfl), h20, h21, h22, h23, h24⟩
      · have e11 := h11 (zdq hd 11 rfl)
        have e19 := h19 (zdq hd 19 rfl)
        go_wp2_with fail
        exact hK _ (.int .u8 ((A (j - m + i) : Int) + (((p : Int) - (τ : Int)) * (b i : Int)))) _ (by simp only [Act.put, pA, pB, pC, e11, e19]) ⟨hB, hz, x0, q0, n0, s1, s2, s3, s4, h0, h1, h2, h3, h4, h5, h6, h7, h8, h9, h10, h11, h12, h13, h14, h15, h16, h17, h18, h19, (fun _ => rfl), h21, h22, h23, h24⟩
      · go_wp2_with fail
        exact hK _ (.int .i64 (p : Int)) _ (by simp only [Act.put, pA, pB, pC ]) ⟨hB, hz, x0, q0, n0, s1, s2, s3, s4, h0, h1, h2, h3, h4, h5, h6, h7, h8, h9, h10, h11, h12, h13, h14, h15, h16, h17, h18, h19, h20, (fun _ => rfl), h22, h23, h24⟩
      · have e21 := h21 (zdq hd 21 rfl)
        go_wp2_with fail
        exact hK _ (.int .u8 (p : Int)) _ (by simp only [Act.put, pA, pB, pC, e21]) ⟨hB, hz, x0, q0, n0, s1, s2, s3, s4, h0, h1, h2, h3, h4, h5, h6, h7, h8, h9, h10, h11, h12, h13, h14, h15, h16, h17, h18, h19, h20, h21, (fun _ => rfl), h23, h24⟩
      · have e20 := h20 (zdq hd 20 rfl)
        have e22 := h22 (zdq hd 22 rfl)
        go_wp2_with fail
        exact hK _ (.int .u8 (((A (j - m + i) : Int) + (((p : Int) - (τ : Int)) * (b i : Int))) % (p : Int))) _ (by simp only [Act.put, pA, pB, pC, e20, e22]) ⟨hB, hz, x0, q0, n0, s1, s2, s3, s4, h0, h1, h2, h3, h4, h5, h6, h7, h8, h9, h10, h11, h12, h13, h14, h15, h16, h17, h18, h19, h20, h21, h22, (fun _ => rfl), h24⟩
      · have e4 := h4 (zdq hd 4 rfl)
        go_wp2_with fail
        exact hK _ (.pointer (some ⟨w.heap.size, j - m + i, none⟩)) _ (by simp only [Act.put, pA, pB, pC, e4]) ⟨hB, hz, x0, q0, n0, s1, s2, s3, s4, h0, h1, h2, h3, h4, h5, h6, h7, h8, h9, h10, h11, h12, h13, h14, h15, h16, h17, h18, h19, h20, h21, h22, h23, (fun _ => rfl)⟩
      · have e24 := h24 (zdq hd 24 rfl)
        have e23 := h23 (zdq hd 23 rfl)
        obtain ⟨gz, hk⟩ := x0
        have zz := hk.frozen (j - m + i)
        have cc := hk.cell (i := j - m + i) (by omega)
        go_wp2_with fail
        exact hK _ undef _ (by simp only [Act.put, pA, pB, pC, e24, e23]) ⟨hB.setCell (by simp <;> omega) _, (by simpa using hz), ⟨_, hk.set (v := (A (j - m + i) + (p - A j * inv % p) * b i) % p) HE.out⟩, (fun h => absurd h (by simp [setL])), (fun _ => by cases hL : L 25 with | false => exact ((q0 hL).set (v := (A (j - m + i) + (p - A j * inv % p) * b i) % p) HE.out).congr (fun k _ => stpr_next p inv m b j A i k) | true => exact ((n0 hL).set (v := (A (j - m + i) + (p - A j * inv % p) * b i) % p) HE.out).congr (fun k _ => upd_again (stpr_next p inv m b j A i) k)), (s1).setOther (by simp <;> omega), (s2).setOther (by simp <;> omega), (s3).setOther (by simp <;> omega), (s4).setOther (by simp <;> omega), h0, h1, h2, h3, h4, h5, h6, h7, h8, h9, h10, h11, h12, h13, h14, h15, h16, h17, h18, h19, h20, h21, h22, h23, h24⟩
    · intro L v wx hL ⟨hB, hz, x0, q0, n0, s1, s2, s3, s4, h0, h1, h2, h3, h4, h5, h6, h7, h8, h9, h10, h11, h12, h13, h14, h15, h16, h17, h18, h19, h20, h21, h22, h23, h24⟩
      have r0 := n0 (hL 25 (by decide))
      have e0 := h0 (hL 0 (by decide))
      have e1 := h1 (hL 1 (by decide))
      have e2 := h2 (hL 2 (by decide))
      have e3 := h3 (hL 3 (by decide))
      have e4 := h4 (hL 4 (by decide))
      have e5 := h5 (hL 5 (by decide))
      have e6 := h6 (hL 6 (by decide))
      have e7 := h7 (hL 7 (by decide))
      have e8 := h8 (hL 8 (by decide))
      have e9 := h9 (hL 9 (by decide))
      have e10 := h10 (hL 10 (by decide))
      have e11 := h11 (hL 11 (by decide))
      have e12 := h12 (hL 12 (by decide))
      have e13 := h13 (hL 13 (by decide))
      have e14 := h14 (hL 14 (by decide))
      have e15 := h15 (hL 15 (by decide))
      have e16 := h16 (hL 16 (by decide))
      have e17 := h17 (hL 17 (by decide))
      have e18 := h18 (hL 18 (by decide))
      have e19 := h19 (hL 19 (by decide))
      have e20 := h20 (hL 20 (by decide))
      have e21 := h21 (hL 21 (by decide))
      have e22 := h22 (hL 22 (by decide))
      have e23 := h23 (hL 23 (by decide))
      have e24 := h24 (hL 24 (by decide))
      clear hL x0 q0 n0 h0 h1 h2 h3 h4 h5 h6 h7 h8 h9 h10 h11 h12 h13 h14 h15 h16 h17 h18 h19 h20 h21 h22 h23 h24
      simp only [Exit.then, e0, e1, e2, e3, e4, e5, e6, e7, e8, e9, e10, e11, e12, e13, e14, e15, e16, e17, e18, e19, e20, e21, e22, e23, e24]
      clear e0 e1 e2 e3 e4 e5 e6 e7 e8 e9 e10 e11 e12 e13 e14 e15 e16 e17 e18 e19 e20 e21 e22 e23 e24
      go_wp2_with fail
      go_roundw
      case rel => exact ⟨i + 1, by omega, by go_num, hB, r0, s1, s2, s3, s4⟩
      case measure => simp [intOf] <;> omega
  · have e : i = m + 1 := by omega
    subst e
    have b0f := b0.congr (fun k _ => stpr_full p inv m b A h1 k)
    go_wp2_with fail
    go_step3
    simp only [Exit.then]
    apply_assumption
    go_wp2_with fail
    go_step3
    refine ⟨⟨j, _, _, _, _, _, _, _, _, _, _, _, _, _, _, _, _, _, _, _, _, _, _, _, _, _, _, _, _, _, _, _, _, _, _, _, _, _, _, _, _, _, _, _, _, _, _, _, _, _, _, _, _, _, _, _, _, _, _, _, _, _, _, _, _, _, _, _, rfl, hb, b0f.congr (fun k _ => HN.out k), b1, b2, b3, b4, h1, by omega, Or.inl ⟨rfl, rfl⟩⟩, ?_⟩
    simp [ldM, intOf] <;> omega
end Go.Proofs.Ytifdkepkedlmoaa
end
section
namespace Go.Proofs.Ytifdkepkedlmoaa
open Go.RowKit
set_option linter.unusedVariables false
set_option linter.unusedSimpArgs false
attribute [local irreducible] deg invN dS qS stp stpr
set_option maxRecDepth 100000 in
set_option maxHeartbeats 3200000 in
theorem ld_done (p m inv : Nat) (a b : Nat → Nat) (w : World) (v9 : Value) (u13 u14 u15 u16 u17 u18 u19 u20 u21 u22 u23 u24 u25 u26 u27 u28 u29 u30 u31 u32 u33 u34 u35 u36 u37 u38 u39 u40 u41 u42 u43 u44 u45 u46 u47 u48 u49 u50 u51 u52 u53 u54 u55 u56 u57 u58 u59 u60 u61 u62 u63 u64 u65 u66 u67 u68 u69 u70 u71 u72 u73 u74 u75 u76 u77 : Value) (x12 : Value) (wr : World) (J : Nat → Act → World → Prop) (A B : Nat → Nat) (hb : Below w.heap.size w wr) (b0 : Blk wr w.heap.size 128 142 A) (b1 : Blk wr (w.heap.size + 1) 64 25 b) (b2 : Blk wr (w.heap.size + 1 + 1) 128 142 (fun _ => 0)) (b3 : Blk wr (w.heap.size + 1 + 1 + 1) 64 25 (fun _ => 0)) (b4 : Blk wr (w.heap.size + 1 + 1 + 1 + 1) 128 142 B) (Q : Exit → Act → World → Prop)
 (hQ : Q = bodyPost Try.prog Try.f188 fun e w' => e = .returned (.tuple #[.agg (zb 128 B), .agg (zb 64 A)]) ∧ Below w.heap.size w w') :
 (behind Try.f188 0).wp Try.prog (Exit.jumps J Q) { tmps := #[.int .i64 (p : Int), .agg (zb 128 a), .agg (zb 64 b), undef, .pointer (some ⟨w.heap.size, 0, none⟩), .pointer (some ⟨w.heap.size + 1, 0, none⟩), .pointer (some ⟨w.heap.size + 1 + 1, 0, none⟩), .pointer (some ⟨w.heap.size + 1 + 1 + 1, 0, none⟩), .pointer (some ⟨w.heap.size + 1 + 1 + 1 + 1, 0, none⟩), v9, .int .i64 (m : Int), .int .u8 (inv : Int), x12, u13, u14, u15, u16, u17, u18, u19, u20, u21, u22, u23, u24, u25, u26, u27, u28, u29, u30, u31, u32, u33, u34, u35, u36, u37, u38, u39, u40, u41, u42, u43, u44, u45, u46, u47, u48, u49, u50, u51, u52, u53, u54, u55, u56, u57, u58, u59, u60, u61, u62, u63, u64, u65, u66, u67, u68, u69, u70, u71, u72, u73, u74, u75, u76, u77], defers := [] } wr := by
 have HQ := Lib.hid hQ
 clear hQ
 have hat := fun (W : World) (a : Option Addr) => run_arrayAt (P := Try.prog) (w := W) 25 5 64 a 64 128 Try.underlying25 (by omega)
 simp only [tailOf, behind, Try.f188, Option.bind_some, scopeIn, Option.getD_some, findLabel, Nat.reduceBEq, if_true, if_false, Bool.false_eq_true, beq_self_eq_true]
 go_wp2_with fail
 have lt_b0 : (w.heap.size) < wr.heap.size := b0.lt
 have lt_b4 : (w.heap.size + 1 + 1 + 1 + 1) < wr.heap.size := b4.lt
 have lt_b2 : (w.heap.size + 1 + 1) < wr.heap.size := b2.lt
 have lt_b3 : (w.heap.size + 1 + 1 + 1) < wr.heap.size := b3.lt
 have hbase : w.heap.size ≤ wr.heap.size := hb.size
 refine zq Try.mixed (by kernel_rfl) (by kernel_rfl) (fun v => by (simp only [frL, Act.put, pA, pB, pC, Nat.reduceAdd, Nat.zero_add]; exact rfl))
  (fun L v wx => Below w.heap.size w wx ∧ wr.heap.size ≤ wx.heap.size ∧ Blk wx (w.heap.size) 128 142 (A) ∧ Blk wx (w.heap.size + 1 + 1 + 1 + 1) 128 142 (B) ∧ (∃ g, Blk wx (w.heap.size + 1 + 1) 128 142 (g)) ∧ (L 4 = false → Blk wx (w.heap.size + 1 + 1) 128 142 (fun _ => 0)) ∧ (L 4 = true → Blk wx (w.heap.size + 1 + 1) 128 142 (B)) ∧ (∃ g, Blk wx (w.heap.size + 1 + 1 + 1) 64 25 (g)) ∧ (L 5 = false → Blk wx (w.heap.size + 1 + 1 + 1) 64 25 (fun _ => 0)) ∧ (L 5 = true → Blk wx (w.heap.size + 1 + 1 + 1) 64 25 (A)) ∧ (L 0 = true → v 0 = (.agg (zb 128 (B)))) ∧ (L 1 = true → v 1 = (.slice (some ⟨w.heap.size, 0, none⟩) 64 128)) ∧ (L 2 = true → v 2 = (.pointer (some ⟨w.heap.size, 0, none⟩) )) ∧ (L 3 = true → v 3 = (.agg (zb 64 (A))))) ?_ ?_ ?_
 · intro v hv0
   exact ⟨hb.drew, Nat.le_refl _, b0.drew, b4.drew, ⟨_, b2.drew⟩, (fun _ => b2.drew), (fun h => by cases h), ⟨_, b3.drew⟩, (fun _ => b3.drew), (fun h => by cases h), (fun h => by cases h), (fun h => by cases h), (fun h => by cases h), (fun h => by cases h)⟩
 · refine (.cons rfl ?_ (.cons rfl ?_ (.cons rfl ?_ (.cons rfl ?_ (.cons rfl ?_ (.cons rfl ?_ (.nil _)))))))
   all_goals intro L v wx hd hn ⟨hB, hz, s0, s1, x2, q2, n2, x3, q3, n3, h0, h1, h2, h3⟩ K hK
   · refine wp_load_blk 142 _ rfl _ rfl 128 142 _ s1 _ Try.underlying142 Try.size142 ?_
     exact hK _ _ _ rfl ⟨hB, hz, s0, s1, x2, q2, n2, x3, q3, n3, (fun _ => rfl), h1, h2, h3⟩
   · go_wp2_with fail
     exact hK _ (.slice (some ⟨w.heap.size, 0, none⟩) 64 128) _ (by simp only [Act.put, pA, pB, pC ]) ⟨hB, hz, s0, s1, x2, q2, n2, x3, q3, n3, h0, (fun _ => rfl), h2, h3⟩
   · have e1 := h1 (zdq hd 1 rfl)
     go_wp2_with fail
     exact hK _ (.pointer (some ⟨w.heap.size, 0, none⟩) ) _ (by simp only [Act.put, pA, pB, pC, e1]) ⟨hB, hz, s0, s1, x2, q2, n2, x3, q3, n3, h0, h1, (fun _ => rfl), h3⟩
   · have e2 := h2 (zdq hd 2 rfl)
     refine wp_load_mid 25 _ rfl _ (0) e2 _ _ (s0.pre (m := 64) (by omega)) Try.underlying25 rfl (by rw [zl]; exact Try.size25) ?_
     exact hK _ _ _ rfl ⟨hB, hz, s0, s1, x2, q2, n2, x3, q3, n3, h0, h1, h2, (fun _ => rfl)⟩
   · have e0 := h0 (zdq hd 0 rfl)
     obtain ⟨gz, hk⟩ := x2
     refine zsb 142 _ _ rfl _ 128 (B) rfl e0 142 gz hk Try.size142 ?_
     exact hK _ undef _ rfl ⟨zr hB (by omega) _, (by simpa [World.setRow] using hz), (s0).rowOther (by omega), (s1).rowOther (by omega), ⟨_, hk.row _⟩, (fun h => absurd h (by simp [setL])), (fun _ => hk.row _), (let ⟨g, h⟩ := x3; ⟨g, (h).rowOther (by omega)⟩), (fun h => (q3 h).rowOther (by omega)), (fun h => (n3 h).rowOther (by omega)), h0, h1, h2, h3⟩
   · have e3 := h3 (zdq hd 3 rfl)
     obtain ⟨gz, hk⟩ := x3
     refine zsb 25 _ _ rfl _ 64 (A) rfl e3 25 gz hk Try.size25 ?_
     exact hK _ undef _ rfl ⟨zr hB (by omega) _, (by simpa [World.setRow] using hz), (s0).rowOther (by omega), (s1).rowOther (by omega), (let ⟨g, h⟩ := x2; ⟨g, (h).rowOther (by omega)⟩), (fun h => (q2 h).rowOther (by omega)), (fun h => (n2 h).rowOther (by omega)), ⟨_, hk.row _⟩, (fun h => absurd h (by simp [setL])), (fun _ => hk.row _), h0, h1, h2, h3⟩
 · intro L v wx hL ⟨hB, hz, s0, s1, x2, q2, n2, x3, q3, n3, h0, h1, h2, h3⟩
   have r2 := n2 (hL 4 (by decide))
   have r3 := n3 (hL 5 (by decide))
   have e0 := h0 (hL 0 (by decide))
   have e1 := h1 (hL 1 (by decide))
   have e2 := h2 (hL 2 (by decide))
   have e3 := h3 (hL 3 (by decide))
   clear hL x2 q2 n2 x3 q3 n3 h0 h1 h2 h3
   simp only [Exit.then, e0, e1, e2, e3]
   clear e0 e1 e2 e3
   go_wp2_with fail
   show Q .ret _ _
   rw [HQ.out]
   refine bodyPost_ret (results_bb rfl _ _ _ 128 142 5 _ _ 64 25 5 _ rfl r2 Try.underlying142 Try.size142 rfl r3 Try.underlying25 Try.size25) rfl ⟨rfl, hB⟩
set_option maxRecDepth 100000 in
set_option maxHeartbeats 3200000 in
theorem longDivision_any (p m : Nat) (a b : Nat → Nat) (w : World) (hp : p = 2 ∨ p = 3 ∨ p = 5 ∨ p = 7) (ha : ∀ k, k < 128 → a k < p) (hb : ∀ k, k < 64 → b k < p) (hm : deg b = (m : Int)) (hbm : 0 < b m) (hm6 : m < 64) :
 Calls Try.prog 188 #[.int .i64 (p : Int), .agg (zb 128 a), .agg (zb 64 b)] w fun e w' => e = .returned (.tuple #[.agg (zb 128 (quoW p (invN p (b m)) m b a)), .agg (zb 64 (resW p (invN p (b m)) m b a))]) ∧ Below w.heap.size w w' := by
 obtain ⟨inv, hinv⟩ : ∃ v, v = invN p (b m) := ⟨_, rfl⟩
 have hi7 : inv < p := by have := (invF hp hbm (hb m hm6)).2.1; omega
 have p2 : 2 ≤ p := by omega
 have p7 : p ≤ 7 := by omega
 rw [← hinv]
 have HA := Lib.hid ha; clear ha
 have HB := Lib.hid hb; clear hb
 have HI := Lib.hid hinv; clear hinv
 have HM := Lib.hid hm; clear hm
 go_enter Try.func188, Try.ntmps188
 go_wp2
 refine wp_scope_labels (fun l a' w' => ldJ p m inv a b w l a' w') (fun l a' _ => ldM l a') ?_ ?_
 · go_upto_region 2 with (fail)
   rw [← zero128, ← z64]
   obtain ⟨wo, hwo⟩ : ∃ wo : World, wo = (((((w.alloc (.cells (zb 128 a) 142)).alloc (.cells (zb 64 b) 25)).alloc (.cells (zb 128 fun _ => 0) 142)).alloc (.cells (zb 64 fun _ => 0) 25)).alloc (.cells (zb 128 fun _ => 0) 142)) := ⟨_, rfl⟩
   have b0 : Blk wo (w.heap.size) 128 142 a := by subst hwo; have := (((((Blk.new w 128 142 a).alloc (.cells (zb 64 b) 25)).alloc (.cells (zb 128 fun _ => 0) 142)).alloc (.cells (zb 64 fun _ => 0) 25)).alloc (.cells (zb 128 fun _ => 0) 142)); simpa using this
   have b1 : Blk wo (w.heap.size + 1) 64 25 b := by subst hwo; have := ((((Blk.new (w.alloc (.cells (zb 128 a) 142)) 64 25 b).alloc (.cells (zb 128 fun _ => 0) 142)).alloc (.cells (zb 64 fun _ => 0) 25)).alloc (.cells (zb 128 fun _ => 0) 142)); simpa using this
   have b2 : Blk wo (w.heap.size + 1 + 1) 128 142 (fun _ => 0) := by subst hwo; have := (((Blk.new ((w.alloc (.cells (zb 128 a) 142)).alloc (.cells (zb 64 b) 25)) 128 142 (fun _ => 0)).alloc (.cells (zb 64 fun _ => 0) 25)).alloc (.cells (zb 128 fun _ => 0) 142)); simpa using this
   have b3 : Blk wo (w.heap.size + 1 + 1 + 1) 64 25 (fun _ => 0) := by subst hwo; have := ((Blk.new (((w.alloc (.cells (zb 128 a) 142)).alloc (.cells (zb 64 b) 25)).alloc (.cells (zb 128 fun _ => 0) 142)) 64 25 (fun _ => 0)).alloc (.cells (zb 128 fun _ => 0) 142)); simpa using this
   have b4 : Blk wo (w.heap.size + 1 + 1 + 1 + 1) 128 142 (fun _ => 0) := by subst hwo; have := (Blk.new ((((w.alloc (.cells (zb 128 a) 142)).alloc (.cells (zb 64 b) 25)).alloc (.cells (zb 128 fun _ => 0) 142)).alloc (.cells (zb 64 fun _ => 0) 25)) 128 142 (fun _ => 0)); simpa using this
   have hb : Below w.heap.size w wo := by subst hwo; exact ((((((Below.refl _ _).alloc (Nat.le_refl _) _).alloc (by simp) _).alloc (by simp; omega) _).alloc (by simp; omega) _).alloc (by simp; omega) _)
   rw [← hwo]
   clear hwo
   have ha : Below wo.heap.size wo wo := Below.refl _ _
   go_upto_region 4 with (first | refine zlb rfl 25 _ rfl _ rfl 64 25 _ (b1.below (by assumption) b1.lt) 5 Try.underlying25 Try.size25 ?_ | (go_at_call 141; refine (acc (degree_any _ _) (by assumption)).mono ?_; rintro e w1 ⟨rfl, h1, ha⟩; rw [HM.out]))
   replace hb := hb.trans (ha.mono hb.size)
   replace b0 := b0.zw ha
   replace b1 := b1.zw ha
   replace b2 := b2.zw ha
   replace b3 := b3.zw ha
   replace b4 := b4.zw ha
   clear ha h1
   have c1 := b1.cell (i := m) hm6
   go_wp2_with (first | (go_at_call 185; refine (inverseNumber_any p (b m) _ hp hbm (HB.out m hm6)).mono ?_; rintro e w1 ⟨rfl, rfl⟩; rw [← HI.out]))
   go_step3
   simp only [Exit.then]
   apply_assumption
   have hA : a = dS p inv m b a (127 - 127) := by rw [Nat.sub_self, dS_zero]
   have b4' := b4.congr (g := qS p inv m b a (127 - 127)) (fun k _ => by rw [Nat.sub_self, qS_zero])
   by_cases h0 : a 127 = 0
   · exact wp_mono (ld_zero p m inv a b w _ _ _ _ _ _ _ _ _ _ _ _ _ _ _ _ _ _ _ _ _ _ _ _ _ _ _ _ _ _ _ _ _ _ _ _ _ _ _ _ _ _ _ _ _ _ _ _ _ _ _ _ _ _ _ _ _ _ _ _ _ _ _ _ _ _ 127 w1 _ a hb b0 b1 b2 b3 b4' (by omega) (by omega) hA HA.out h0) jumps_less
   · exact wp_mono (ld_take p m inv a b w _ _ _ _ _ _ _ _ _ _ _ _ _ _ _ _ _ _ _ _ _ _ _ _ _ _ _ _ _ _ _ _ _ _ _ _ _ _ _ _ _ _ _ _ _ _ _ _ _ _ _ _ _ _ _ _ _ _ _ _ _ _ _ _ _ _ 127 w1 _ a hb b0 b1 b2 b3 b4' (by omega) (by omega) hA HA.out h0 p2 p7 hi7 HB.out hm6) jumps_less
 · intro l a' w' hJ
   obtain ⟨t, v9, v12, u13, u14, u15, u16, u17, u18, u19, u20, u21, u22, u23, u24, u25, u26, u27, u28, u29, u30, u31, u32, u33, u34, u35, u36, u37, u38, u39, u40, u41, u42, u43, u44, u45, u46, u47, u48, u49, u50, u51, u52, u53, u54, u55, u56, u57, u58, u59, u60, u61, u62, u63, u64, u65, u66, u67, u68, u69, u70, u71, u72, u73, u74, u75, u76, u77, rfl, hb, b0, b1, b2, b3, b4, ht1, ht2, hl⟩ := hJ
   rcases hl with ⟨rfl, rfl⟩ | ⟨rfl, rfl, ht3⟩ | ⟨rfl, rfl⟩
   · refine ⟨behind Try.f188 1, rfl, ?_⟩
     by_cases hlt : m < t
     · obtain ⟨j, rfl⟩ : ∃ j, t = j + 1 := ⟨t - 1, by omega⟩
       rw [show ((j + 1 : Nat) : Int) - 1 = (j : Int) by omega]
       rw [show 128 - (j + 1) = 127 - j by omega] at b0 b4
       rw [show ldM 1 ({ tmps := #[.int .i64 (p : Int), .agg (zb 128 a), .agg (zb 64 b), undef, .pointer (some ⟨w.heap.size, 0, none⟩), .pointer (some ⟨w.heap.size + 1, 0, none⟩), .pointer (some ⟨w.heap.size + 1 + 1, 0, none⟩), .pointer (some ⟨w.heap.size + 1 + 1 + 1, 0, none⟩), .pointer (some ⟨w.heap.size + 1 + 1 + 1 + 1, 0, none⟩), v9, .int .i64 (m : Int), .int .u8 (inv : Int), .int .i64 (j : Int), u13, u14, u15, u16, u17, u18, u19, u20, u21, u22, u23, u24, u25, u26, u27, u28, u29, u30, u31, u32, u33, u34, u35, u36, u37, u38, u39, u40, u41, u42, u43, u44, u45, u46, u47, u48, u49, u50, u51, u52, u53, u54, u55, u56, u57, u58, u59, u60, u61, u62, u63, u64, u65, u66, u67, u68, u69, u70, u71, u72, u73, u74, u75, u76, u77], defers := [] } : Act) = 3 * (j + 1) + 2 by simp [ldM, intOf] <;> omega]
       by_cases h0 : dS p inv m b a (127 - j) j = 0
       · exact behind_tail rfl (ld_zero p m inv a b w v9 u13 u14 u15 u16 u17 u18 u19 u20 u21 u22 u23 u24 u25 u26 u27 u28 u29 u30 u31 u32 u33 u34 u35 u36 u37 u38 u39 u40 u41 u42 u43 u44 u45 u46 u47 u48 u49 u50 u51 u52 u53 u54 u55 u56 u57 u58 u59 u60 u61 u62 u63 u64 u65 u66 u67 u68 u69 u70 u71 u72 u73 u74 u75 u76 u77 j w' _ _ hb b0 b1 b2 b3 b4 (by omega) (by omega) rfl (dS_lt (by omega) HA.out _) h0)
       · exact behind_tail rfl (ld_take p m inv a b w v9 u13 u14 u15 u16 u17 u18 u19 u20 u21 u22 u23 u24 u25 u26 u27 u28 u29 u30 u31 u32 u33 u34 u35 u36 u37 u38 u39 u40 u41 u42 u43 u44 u45 u46 u47 u48 u49 u50 u51 u52 u53 u54 u55 u56 u57 u58 u59 u60 u61 u62 u63 u64 u65 u66 u67 u68 u69 u70 u71 u72 u73 u74 u75 u76 u77 j w' _ _ hb b0 b1 b2 b3 b4 (by omega) (by omega) rfl (dS_lt (by omega) HA.out _) h0 p2 p7 hi7 HB.out hm6)
     · have e : t = m := by omega
       subst e
       rw [show ldM 1 ({ tmps := #[.int .i64 (p : Int), .agg (zb 128 a), .agg (zb 64 b), undef, .pointer (some ⟨w.heap.size, 0, none⟩), .pointer (some ⟨w.heap.size + 1, 0, none⟩), .pointer (some ⟨w.heap.size + 1 + 1, 0, none⟩), .pointer (some ⟨w.heap.size + 1 + 1 + 1, 0, none⟩), .pointer (some ⟨w.heap.size + 1 + 1 + 1 + 1, 0, none⟩), v9, .int .i64 (t : Int), .int .u8 (inv : Int), .int .i64 ((t : Int) - 1), u13, u14, u15, u16, u17, u18, u19, u20, u21, u22, u23, u24, u25, u26, u27, u28, u29, u30, u31, u32, u33, u34, u35, u36, u37, u38, u39, u40, u41, u42, u43, u44, u45, u46, u47, u48, u49, u50, u51, u52, u53, u54, u55, u56, u57, u58, u59, u60, u61, u62, u63, u64, u65, u66, u67, u68, u69, u70, u71, u72, u73, u74, u75, u76, u77], defers := [] } : Act) = 3 * t + 2 by simp [ldM, intOf] <;> omega]
       exact ld_stop p t inv a b w v9 u13 u14 u15 u16 u17 u18 u19 u20 u21 u22 u23 u24 u25 u26 u27 u28 u29 u30 u31 u32 u33 u34 u35 u36 u37 u38 u39 u40 u41 u42 u43 u44 u45 u46 u47 u48 u49 u50 u51 u52 u53 u54 u55 u56 u57 u58 u59 u60 u61 u62 u63 u64 u65 u66 u67 u68 u69 u70 u71 u72 u73 u74 u75 u76 u77 w' _ hb b0 b1 b2 b3 b4 ht2
   · refine ⟨behind Try.f188 2, rfl, ?_⟩
     rw [show ldM 2 ({ tmps := #[.int .i64 (p : Int), .agg (zb 128 a), .agg (zb 64 b), undef, .pointer (some ⟨w.heap.size, 0, none⟩), .pointer (some ⟨w.heap.size + 1, 0, none⟩), .pointer (some ⟨w.heap.size + 1 + 1, 0, none⟩), .pointer (some ⟨w.heap.size + 1 + 1 + 1, 0, none⟩), .pointer (some ⟨w.heap.size + 1 + 1 + 1 + 1, 0, none⟩), v9, .int .i64 (m : Int), .int .u8 (inv : Int), .int .i64 (t : Int), u13, u14, u15, u16, u17, u18, u19, u20, u21, u22, u23, u24, u25, u26, u27, u28, u29, u30, u31, u32, u33, u34, u35, u36, u37, u38, u39, u40, u41, u42, u43, u44, u45, u46, u47, u48, u49, u50, u51, u52, u53, u54, u55, u56, u57, u58, u59, u60, u61, u62, u63, u64, u65, u66, u67, u68, u69, u70, u71, u72, u73, u74, u75, u76, u77], defers := [] } : Act) = 3 * (t + 1) + 1 by simp [ldM, intOf] <;> omega]
     exact ld_next p m inv a b w v9 u13 u14 u15 u16 u17 u18 u19 u20 u21 u22 u23 u24 u25 u26 u27 u28 u29 u30 u31 u32 u33 u34 u35 u36 u37 u38 u39 u40 u41 u42 u43 u44 u45 u46 u47 u48 u49 u50 u51 u52 u53 u54 u55 u56 u57 u58 u59 u60 u61 u62 u63 u64 u65 u66 u67 u68 u69 u70 u71 u72 u73 u74 u75 u76 u77 t w' _ hb b0 b1 b2 b3 b4 ht1 ht3
   · refine ⟨behind Try.f188 0, rfl, ?_⟩
     exact ld_done p t inv a b w v9 u13 u14 u15 u16 u17 u18 u19 u20 u21 u22 u23 u24 u25 u26 u27 u28 u29 u30 u31 u32 u33 u34 u35 u36 u37 u38 u39 u40 u41 u42 u43 u44 u45 u46 u47 u48 u49 u50 u51 u52 u53 u54 u55 u56 u57 u58 u59 u60 u61 u62 u63 u64 u65 u66 u67 u68 u69 u70 u71 u72 u73 u74 u75 u76 u77 _ w' _ _ _ hb b0 b1 b2 b3 b4 _ rfl
end Go.Proofs.Ytifdkepkedlmoaa
end
section
namespace Go.Proofs.Ytifdkepkedlmoaa
open Go.RowKit
set_option linter.unusedVariables false
set_option linter.unusedSimpArgs false
attribute [local irreducible] deg invN dS qS stp stpr quoP resP
theorem splice_cut (a g : Nat → Nat) (hg : ∀ k, 64 ≤ k → g k = 0) : splice (bl 128 g) 0 (bl 64 a) = bl 128 (cut a) := by
 unfold splice
 apply List.ext_getElem?
 intro i
 by_cases h : i < 64
 · rw [List.take_zero, List.nil_append, List.getElem?_append_left (by rw [zl]; exact h)]
   have e1 := bcells_get (f := a) h
   have e2 := bcells_get (f := cut a) (show i < 128 by omega)
   simp only [List.getElem?_toArray] at e1 e2
   rw [e1, e2, cut_in a h]
 · rw [List.take_zero, List.nil_append, List.getElem?_append_right (by rw [zl]; omega), zl, List.getElem?_drop]
   by_cases h2 : i < 128
   · have e1 := bcells_get (f := g) (show 0 + 64 + (i - 64) < 128 by omega)
     have e2 := bcells_get (f := cut a) h2
     simp only [List.getElem?_toArray] at e1 e2
     rw [e1, e2, zcz a (by omega), hg _ (by omega)]
   · rw [List.getElem?_eq_none (by rw [zl]; omega), List.getElem?_eq_none (by rw [zl]; omega)]
theorem wp_copy_splice {P : Program} {o : Oper} {a : Act} {w : World} {K : Act → World → Prop} {Q : Exit → Act → World → Prop} (hgd : o.guard = none) (d s : Operand) (dT sT : TypeId)
 (ho : o.op = .call { callee := .builtin .copy, args := #[d, s], argTypes := #[dT, sT] }) (elem : TypeId) (hu : P.underlying dT = some (.slice elem)) (hsz : (P.info? elem).map (·.size) = some 1)
 (dp sp : Option Addr) (dLen dCap sLen sCap : Nat) (hd : a.eval d = .slice dp dLen dCap) (hs : a.eval s = .slice sp sLen sCap)
 (g off : Nat) (cur : List Value) (t : TypeId) (hg : w.heap[g]? = some (.cells cur.toArray t (0, 0))) (cs : List Value) (hn : cs.length = Nat.min sLen dLen)
 (hpos : 0 < cs.length → dp = some ⟨g, off, none⟩ ∧ ∃ ad, sp = some ad ∧ ∀ j v, cs[j]? = some v → w.cell? (ad.add j) = some v)
 (hfit : off + cs.length ≤ cur.length) (h1 : ∀ v ∈ cs, v.oneCell' = true) (B : Nat) (w0 : World) (hb : Below B w0 w) (hBg : B ≤ g)
 (h : ∀ w', Hid (w'.heap[g]? = some (.cells (splice cur off cs).toArray t (0, 0))) → Below B w0 w' → K (a.put o.dst (goInt cs.length)) w') : Oper.wp P o a w K Q := by
 have := step_copy_splice (P := P) (ops := #[]) (K := K) (Q := Q) (E := True) hgd d s dT sT ho elem hu hsz dp sp dLen dCap sLen sCap hd hs g off cur t hg cs hn hpos hfit h1 B w0 hb hBg h
 rwa [if_pos (by simp [Region.wanted, hgd])] at this
set_option maxRecDepth 100000 in
set_option maxHeartbeats 3200000 in
theorem quotientAndRest_any (p : Nat) (a b : Nat → Nat) (w : World) (hp : p = 2 ∨ p = 3 ∨ p = 5 ∨ p = 7) (ha : ∀ k, k < 64 → a k < p) (hbp : ∀ k, k < 64 → b k < p) (hd : 0 ≤ deg b) :
 Calls Try.prog 140 #[.int .i64 (p : Int), .agg (zb 64 a), .agg (zb 64 b)] w fun e w' => e = .returned (.tuple #[.agg (zb 64 (quoP p a b)), .agg (zb 64 (resP p a b))]) ∧ Below w.heap.size w w' := by
 obtain ⟨m, hm⟩ : ∃ m : Nat, deg b = (m : Int) := ⟨(deg b).toNat, by omega⟩
 obtain ⟨hm6, hbm, _⟩ := deg_top hm
 have p0 : 0 < p := by omega
 have HL := Lib.hid (fun W => longDivision_any p m (cut a) b W hp (fun k _ => cut_all p0 ha k) hbp hm hbm hm6)
 have HQ := Lib.hid (quoP_at (p := p) (a := a) hm)
 have HR := Lib.hid (resP_at (p := p) (a := a) hm)
 clear hm hd ha hbp
 go_enter Try.func140, Try.ntmps140
 go_upto_region 2 with (fail)
 rw [← zero128, ← z64]
 obtain ⟨wo, hwo⟩ : ∃ wo : World, wo = (((((w.alloc (.cells (zb 64 a) 25)).alloc (.cells (zb 64 b) 25)).alloc (.cells (zb 64 fun _ => 0) 25)).alloc (.cells (zb 64 fun _ => 0) 25)).alloc (.cells (zb 128 fun _ => 0) 142)) := ⟨_, rfl⟩
 have b0 : Blk wo (w.heap.size) 64 25 a := by subst hwo; have := (((((Blk.new w 64 25 a).alloc (.cells (zb 64 b) 25)).alloc (.cells (zb 64 fun _ => 0) 25)).alloc (.cells (zb 64 fun _ => 0) 25)).alloc (.cells (zb 128 fun _ => 0) 142)); simpa using this
 have b1 : Blk wo (w.heap.size + 1) 64 25 b := by subst hwo; have := ((((Blk.new (w.alloc (.cells (zb 64 a) 25)) 64 25 b).alloc (.cells (zb 64 fun _ => 0) 25)).alloc (.cells (zb 64 fun _ => 0) 25)).alloc (.cells (zb 128 fun _ => 0) 142)); simpa using this
 have b2 : Blk wo (w.heap.size + 1 + 1) 64 25 (fun _ => 0) := by subst hwo; have := (((Blk.new ((w.alloc (.cells (zb 64 a) 25)).alloc (.cells (zb 64 b) 25)) 64 25 (fun _ => 0)).alloc (.cells (zb 64 fun _ => 0) 25)).alloc (.cells (zb 128 fun _ => 0) 142)); simpa using this
 have b3 : Blk wo (w.heap.size + 1 + 1 + 1) 64 25 (fun _ => 0) := by subst hwo; have := ((Blk.new (((w.alloc (.cells (zb 64 a) 25)).alloc (.cells (zb 64 b) 25)).alloc (.cells (zb 64 fun _ => 0) 25)) 64 25 (fun _ => 0)).alloc (.cells (zb 128 fun _ => 0) 142)); simpa using this
 have b4 : Blk wo (w.heap.size + 1 + 1 + 1 + 1) 128 142 (fun _ => 0) := by subst hwo; have := (Blk.new ((((w.alloc (.cells (zb 64 a) 25)).alloc (.cells (zb 64 b) 25)).alloc (.cells (zb 64 fun _ => 0) 25)).alloc (.cells (zb 64 fun _ => 0) 25)) 128 142 (fun _ => 0)); simpa using this
 have hb : Below w.heap.size w wo := by subst hwo; exact ((((((Below.refl _ _).alloc (Nat.le_refl _) _).alloc (by simp) _).alloc (by simp; omega) _).alloc (by simp; omega) _).alloc (by simp; omega) _)
 rw [← hwo]
 clear hwo
 have lt_b0 : (w.heap.size) < wo.heap.size := b0.lt
 have lt_b1 : (w.heap.size + 1) < wo.heap.size := b1.lt
 have lt_b2 : (w.heap.size + 1 + 1) < wo.heap.size := b2.lt
 have lt_b3 : (w.heap.size + 1 + 1 + 1) < wo.heap.size := b3.lt
 have lt_b4 : (w.heap.size + 1 + 1 + 1 + 1) < wo.heap.size := b4.lt
 have hbase : w.heap.size ≤ wo.heap.size := hb.size
 refine zq Try.mixed (by kernel_rfl) (by kernel_rfl) (fun v => by (simp only [frL, Act.put, pA, pB, pC, Nat.reduceAdd, Nat.zero_add]; exact rfl))
  (fun L v wx => Below w.heap.size w wx ∧ wo.heap.size ≤ wx.heap.size ∧ Blk wx (w.heap.size) 64 25 (a) ∧ Blk wx (w.heap.size + 1) 64 25 (b) ∧ Blk wx (w.heap.size + 1 + 1) 64 25 (fun _ => 0) ∧ Blk wx (w.heap.size + 1 + 1 + 1) 64 25 (fun _ => 0) ∧ (∃ g, Blk wx (w.heap.size + 1 + 1 + 1 + 1) 128 142 (g)) ∧ (L 2 = false → Blk wx (w.heap.size + 1 + 1 + 1 + 1) 128 142 (fun _ => 0)) ∧ (L 2 = true → Blk wx (w.heap.size + 1 + 1 + 1 + 1) 128 142 (cut a)) ∧ (L 0 = true → v 0 = (.slice (some ⟨w.heap.size + 1 + 1 + 1 + 1, 0, none⟩) 128 128)) ∧ (L 1 = true → v 1 = (.slice (some ⟨w.heap.size, 0, none⟩) 64 64)) ∧ (L 2 = true → v 2 = (goInt ((64 : Nat) : Int)))) ?_ ?_ ?_
 · intro v hv0
   exact ⟨hb.drew, Nat.le_refl _, b0.drew, b1.drew, b2.drew, b3.drew, ⟨_, b4.drew⟩, (fun _ => b4.drew), (fun h => by cases h), (fun h => by cases h), (fun h => by cases h), (fun h => by cases h)⟩
 · refine (.cons rfl ?_ (.cons rfl ?_ (.cons rfl ?_ (.nil _))))
   all_goals intro L v wx hd hn ⟨hB, hz, s0, s1, s2, s3, x4, q4, n4, h0, h1, h2⟩ K hK
   · go_wp2_with fail
     exact hK _ (.slice (some ⟨w.heap.size + 1 + 1 + 1 + 1, 0, none⟩) 128 128) _ (by simp only [Act.put, pA, pB, pC ]) ⟨hB, hz, s0, s1, s2, s3, x4, q4, n4, (fun _ => rfl), h1, h2⟩
   · go_wp2_with fail
     exact hK _ (.slice (some ⟨w.heap.size, 0, none⟩) 64 64) _ (by simp only [Act.put, pA, pB, pC ]) ⟨hB, hz, s0, s1, s2, s3, x4, q4, n4, h0, (fun _ => rfl), h2⟩
   · have e0 := h0 (zdq hd 0 rfl)
     have e1 := h1 (zdq hd 1 rfl)
     obtain ⟨gz, hk, hgz⟩ : ∃ g, Blk wx (w.heap.size + 1 + 1 + 1 + 1) 128 142 g ∧ ∀ k, 64 ≤ k → g k = 0 := by
      cases hL : L 2 with
      | false => exact ⟨_, q4 hL, fun _ _ => rfl⟩
      | true => exact ⟨_, n4 hL, fun k hk => zcz a hk⟩
     have hg : wx.heap[w.heap.size + 1 + 1 + 1 + 1]? = some (.cells (bl 128 gz).toArray 142 (0, 0)) := by unfold Blk at hk; exact hk
     refine wp_copy_splice rfl _ _ 28 28 rfl 5 Try.underlying28 Try.size5 _ _ _ _ _ _ e0 e1 (w.heap.size + 1 + 1 + 1 + 1) 0 (bl 128 gz) 142 hg (bl 64 a) (by rw [zl]; rfl) (fun _ => ⟨rfl, _, rfl, fun j v hv => by rw [addr_zero_add]; have := s0.range j v hv; rwa [Nat.zero_add] at this⟩) (by rw [zl, zl]; omega) bl_one (w.heap.size + 1 + 1 + 1 + 1) wx (Below.refl _ _) (Nat.le_refl _) ?_
     intro wy hyg hy
     have hnew : Blk wy (w.heap.size + 1 + 1 + 1 + 1) 128 142 (cut a) := by unfold Blk; rw [hyg.out, splice_cut a gz hgz]
     rw [zl]
     exact hK _ (goInt ((64 : Nat) : Int)) _ (by simp only [Act.put, pA, pB, pC, e0, e1]) ⟨hB.trans (hy.mono (by omega)), (Nat.le_trans hz hy.size), (s0).below hy (by omega), (s1).below hy (by omega), (s2).below hy (by omega), (s3).below hy (by omega), ⟨_, hnew⟩, (fun h => absurd h (by simp [setL])), (fun _ => hnew), h0, h1, (fun _ => rfl)⟩
 · intro L v wx hL ⟨hB, hz, s0, s1, s2, s3, x4, q4, n4, h0, h1, h2⟩
   have r4 := n4 (hL 2 (by decide))
   have e0 := h0 (hL 0 (by decide))
   have e1 := h1 (hL 1 (by decide))
   have e2 := h2 (hL 2 (by decide))
   clear hL x4 q4 n4 h0 h1 h2
   simp only [Exit.then, e0, e1, e2]
   clear e0 e1 e2
   replace hb := hB
   replace b1 := s1
   replace b2 := s2
   replace b3 := s3
   replace b4 := r4
   clear hB s1 s2 s3 r4 hz
   have hx10 : ∀ w1 : World, Blk ((w1.alloc (.cells (zb 128 fun _ => 0) 142)).alloc (.cells (zb 64 fun _ => 0) 25)) (w1.heap.size + 1) 64 25 (fun _ => 0) := fun w1 => by
    have := Blk.new (w1.alloc (.cells (zb 128 fun _ => 0) 142)) 64 25 (fun _ => 0)
    simpa using this
   have HX := Lib.hid hx10
   clear hx10
   go_upto_region 4 with (first | refine zlb rfl 142 _ rfl _ rfl 128 142 _ (b4) 5 Try.underlying142 Try.size142 ?_ | refine zlb rfl 25 _ rfl _ rfl 64 25 _ (b1) 5 Try.underlying25 Try.size25 ?_ | (go_at_call 188; refine (HL.out _).mono ?_; rintro e w1 ⟨rfl, h1⟩; rw [← HQ.out, ← HR.out]) | (rw [← zero128, ← z64]; refine wpList_store_blk rfl 142 _ _ rfl _ 128 (quoP p a b) rfl rfl 142 _ ((Blk.new w1 128 142 (fun _ => 0)).alloc _) Try.size142 ?_) | (refine wpList_store_blk rfl 25 _ _ rfl _ 64 (resP p a b) rfl rfl 25 _ ((HX.out w1).rowOther (by omega)) Try.size25 ?_))
   have a9 := (((Blk.new w1 128 142 (fun _ => 0)).alloc (.cells (zb 64 fun _ => 0) 25)).row (quoP p a b)).rowOther (k := w1.heap.size + 1) (cs := zb 64 (resP p a b)) (by omega)
   have a10 := ((HX.out w1).rowOther (k := w1.heap.size) (cs := zb 128 (quoP p a b)) (by omega)).row (resP p a b)
   have hb4 := zr (zr (((Below.refl w1.heap.size w1).alloc (Nat.le_refl _) (.cells (zb 128 fun _ => 0) 142)).alloc (by simp) (.cells (zb 64 fun _ => 0) 25)) (Nat.le_refl _) (zb 128 (quoP p a b))) (show w1.heap.size ≤ w1.heap.size + 1 by omega) (zb 64 (resP p a b))
   obtain ⟨w4, hw4⟩ : ∃ w4 : World, w4 = (((w1.alloc (.cells (zb 128 fun _ => 0) 142)).alloc (.cells (zb 64 fun _ => 0) 25)).setRow w1.heap.size (zb 128 (quoP p a b))).setRow (w1.heap.size + 1) (zb 64 (resP p a b)) := ⟨_, rfl⟩
   rw [← hw4] at a9 a10 hb4 ⊢
   clear hw4
   replace b2 := b2.zw h1
   replace b3 := b3.zw h1
   have hl3 := b3.lt
   replace b2 := b2.zw hb4
   replace b3 := b3.zw hb4
   replace hb := (hb.trans (h1.mono hb.size))
   replace hb := hb.trans (hb4.mono hb.size)
   obtain ⟨n9, hn9⟩ : ∃ n9, n9 = w1.heap.size := ⟨_, rfl⟩
   rw [← hn9] at a9 a10 hl3 ⊢
   clear hn9 hb4 h1 b1 b4
   have hat := fun (W : World) (a : Option Addr) => run_arrayAt (P := Try.prog) (w := W) 25 5 64 a 64 128 Try.underlying25 (by omega)
   have lt_a9 : (n9) < w4.heap.size := a9.lt
   have lt_a10 : (n9 + 1) < w4.heap.size := a10.lt
   have lt_b2 : (w.heap.size + 1 + 1) < w4.heap.size := b2.lt
   have lt_b3 : (w.heap.size + 1 + 1 + 1) < w4.heap.size := b3.lt
   have hbase : w.heap.size ≤ w4.heap.size := hb.size
   refine zq Try.mixed (by kernel_rfl) (by kernel_rfl) (fun v => by (simp only [frL, Act.put, pA, pB, pC, Nat.reduceAdd, Nat.zero_add]; exact rfl))
    (fun L v wx => Below w.heap.size w wx ∧ w4.heap.size ≤ wx.heap.size ∧ Blk wx (n9) 128 142 (quoP p a b) ∧ Blk wx (n9 + 1) 64 25 (resP p a b) ∧ (∃ g, Blk wx (w.heap.size + 1 + 1) 64 25 (g)) ∧ (L 4 = false → Blk wx (w.heap.size + 1 + 1) 64 25 (fun _ => 0)) ∧ (L 4 = true → Blk wx (w.heap.size + 1 + 1) 64 25 (quoP p a b)) ∧ (∃ g, Blk wx (w.heap.size + 1 + 1 + 1) 64 25 (g)) ∧ (L 5 = false → Blk wx (w.heap.size + 1 + 1 + 1) 64 25 (fun _ => 0)) ∧ (L 5 = true → Blk wx (w.heap.size + 1 + 1 + 1) 64 25 (resP p a b)) ∧ (L 0 = true → v 0 = (.slice (some ⟨n9, 0, none⟩) 64 128)) ∧ (L 1 = true → v 1 = (.pointer (some ⟨n9, 0, none⟩) )) ∧ (L 2 = true → v 2 = (.agg (zb 64 (quoP p a b)))) ∧ (L 3 = true → v 3 = (.agg (zb 64 (resP p a b))))) ?_ ?_ ?_
   · intro v hv0
     exact ⟨hb.drew, Nat.le_refl _, a9.drew, a10.drew, ⟨_, b2.drew⟩, (fun _ => b2.drew), (fun h => by cases h), ⟨_, b3.drew⟩, (fun _ => b3.drew), (fun h => by cases h), (fun h => by cases h), (fun h => by cases h), (fun h => by cases h), (fun h => by cases h)⟩
   · refine (.cons rfl ?_ (.cons rfl ?_ (.cons rfl ?_ (.cons rfl ?_ (.cons rfl ?_ (.cons rfl ?_ (.nil _)))))))
     all_goals intro L v wx hd hn ⟨hB, hz, s0, s1, x2, q2, n2, x3, q3, n3, h0, h1, h2, h3⟩ K hK
     · go_wp2_with fail
       exact hK _ (.slice (some ⟨n9, 0, none⟩) 64 128) _ (by simp only [Act.put, pA, pB, pC ]) ⟨hB, hz, s0, s1, x2, q2, n2, x3, q3, n3, (fun _ => rfl), h1, h2, h3⟩
     · have e0 := h0 (zdq hd 0 rfl)
       go_wp2_with fail
       exact hK _ (.pointer (some ⟨n9, 0, none⟩) ) _ (by simp only [Act.put, pA, pB, pC, e0]) ⟨hB, hz, s0, s1, x2, q2, n2, x3, q3, n3, h0, (fun _ => rfl), h2, h3⟩
     · have e1 := h1 (zdq hd 1 rfl)
       refine wp_load_mid 25 _ rfl _ (0) e1 _ _ (s0.pre (m := 64) (by omega)) Try.underlying25 rfl (by rw [zl]; exact Try.size25) ?_
       exact hK _ _ _ rfl ⟨hB, hz, s0, s1, x2, q2, n2, x3, q3, n3, h0, h1, (fun _ => rfl), h3⟩
     · refine wp_load_blk 25 _ rfl _ rfl 64 25 _ s1 _ Try.underlying25 Try.size25 ?_
       exact hK _ _ _ rfl ⟨hB, hz, s0, s1, x2, q2, n2, x3, q3, n3, h0, h1, h2, (fun _ => rfl)⟩
     · have e2 := h2 (zdq hd 2 rfl)
       obtain ⟨gz, hk⟩ := x2
       refine zsb 25 _ _ rfl _ 64 (quoP p a b) rfl e2 25 gz hk Try.size25 ?_
       exact hK _ undef _ rfl ⟨zr hB (by omega) _, (by simpa [World.setRow] using hz), (s0).rowOther (by omega), (s1).rowOther (by omega), ⟨_, hk.row _⟩, (fun h => absurd h (by simp [setL])), (fun _ => hk.row _), (let ⟨g, h⟩ := x3; ⟨g, (h).rowOther (by omega)⟩), (fun h => (q3 h).rowOther (by omega)), (fun h => (n3 h).rowOther (by omega)), h0, h1, h2, h3⟩
     · have e3 := h3 (zdq hd 3 rfl)
       obtain ⟨gz, hk⟩ := x3
       refine zsb 25 _ _ rfl _ 64 (resP p a b) rfl e3 25 gz hk Try.size25 ?_
       exact hK _ undef _ rfl ⟨zr hB (by omega) _, (by simpa [World.setRow] using hz), (s0).rowOther (by omega), (s1).rowOther (by omega), (let ⟨g, h⟩ := x2; ⟨g, (h).rowOther (by omega)⟩), (fun h => (q2 h).rowOther (by omega)), (fun h => (n2 h).rowOther (by omega)), ⟨_, hk.row _⟩, (fun h => absurd h (by simp [setL])), (fun _ => hk.row _), h0, h1, h2, h3⟩
   · intro L v wx hL ⟨hB, hz, s0, s1, x2, q2, n2, x3, q3, n3, h0, h1, h2, h3⟩
     have r2 := n2 (hL 4 (by decide))
     have r3 := n3 (hL 5 (by decide))
     have e0 := h0 (hL 0 (by decide))
     have e1 := h1 (hL 1 (by decide))
     have e2 := h2 (hL 2 (by decide))
     have e3 := h3 (hL 3 (by decide))
     clear hL x2 q2 n2 x3 q3 n3 h0 h1 h2 h3
     simp only [Exit.then, e0, e1, e2, e3]
     clear e0 e1 e2 e3
     go_wp2_with fail
     show bodyPost Try.prog Try.f140 _ .ret _ _
     refine bodyPost_ret (results_bb rfl _ _ _ 64 25 5 _ _ 64 25 5 _ rfl r2 Try.underlying25 Try.size25 rfl r3 Try.underlying25 Try.size25) rfl ⟨rfl, hB⟩
end Go.Proofs.Ytifdkepkedlmoaa
end
section
namespace Go.Proofs.Ytifdkepkedlmoaa
open Go Go.RowKit
/-- the first n cells are the same -/
def eqN (n : Nat) (f g : Nat → Nat) : Bool := (List.range n).all fun i => f i == g i
theorem eqN_iff {n : Nat} {f g : Nat → Nat} : eqN n f g = true ↔ ∀ i, i < n → f i = g i := by
 simp [eqN, List.all_eq_true]
section
variable {P : Program}
theorem run_part_byte (w : World) (e n i : Nat) (f : Nat → Nat) (he : P.underlying e = some (.int .u8)) (hi : i < n) : (part e (zb n f) (i * 1)).run P w = .ok (.int .u8 (f i : Int)) w := by
 have h := bcells_get (f := f) hi
 rw [Nat.mul_one]
 unfold part isAgg
 simp only [Sem.run_bind, run_underlying he, Result.andThen_ok, Sem.run_pure]
 simp [h]
theorem zeb (w : World) (d t e n : Nat) (f g : Nat → Nat) (hu : P.underlying t = some (.array n e)) (he : P.underlying e = some (.int .u8)) (hs : (P.info? e).map (·.size) = some 1) :
 (Op.equalIn (d + 2) t (.agg (zb n f)) (.agg (zb n g))).run P w = .ok (eqN n f g) w := by
 have hsz : (sizeOf e).run P w = .ok 1 w := by
  cases hq : P.info? e with
  | none => simp [hq] at hs
  | some i =>
   have : i.size = 1 := by simpa [hq] using hs
   simp [sizeOf, typeInfo, hq, this, Sem.run_bind]
 rw [Op.equalIn]
 simp only [Sem.run_bind, run_underlying hu, Result.andThen_ok, hsz]
 rw [Std.Legacy.Range.forIn_eq_forIn_range']
 have key : ∀ l : List Nat, (∀ i, i ∈ l → i < n) → (forIn l ((none : Option Bool), ()) fun i __s => (do
           let __do_lift ← part e (zb n f) (i * 1)
           let __do_lift_1 ← part e (zb n g) (i * 1)
           let __do_lift ← Op.equalIn (d + 1) e __do_lift __do_lift_1
           if (!__do_lift) = true then pure (ForInStep.done (some false, ())) else pure (ForInStep.yield (none, ())) : Sem (ForInStep (Option Bool × Unit)))).run P w = .ok (if (l.all fun i => f i == g i) then none else some false, ()) w := by
  intro l
  induction l with
  | nil => intro _; simp
  | cons i l ih =>
   intro hl
   have hi := hl i (by simp)
   rw [List.forIn_cons]
   simp only [Sem.run_bind, run_part_byte w e n i f he hi, run_part_byte w e n i g he hi, Result.andThen_ok, run_equalIn_int w d e .u8 .u8 _ _ he]
   by_cases h : f i = g i
   · have h' : ((f i : Int) == (g i : Int)) = true := by simp [h]
     rw [h']
     simp only [Bool.not_true, Bool.false_eq_true, if_false, Sem.run_pure, Result.andThen_ok, List.all_cons, h, beq_self_eq_true, Bool.true_and]
     exact ih (fun j hj => hl j (by simp [hj]))
   · have h' : ((f i : Int) == (g i : Int)) = false := by simp; omega
     rw [h']
     simp [List.all_cons, h]
 have hr := key (List.range' 0 n) (fun i hi => by simpa using hi)
 have e1 : (List.range' 0 n).all (fun i => f i == g i) = eqN n f g := by rw [eqN, List.range_eq_range']
 rw [e1] at hr
 have e2 : ([:n].size) = n := by simp [Std.Legacy.Range.size]
 rw [show (List.range' [:n].start [:n].size [:n].step) = List.range' 0 n by rw [e2]]
 rw [hr]
 cases eqN n f g <;> simp
end
end Go.Proofs.Ytifdkepkedlmoaa
end
section
namespace Go.Proofs.Ytifdkepkedlmoaa
open Go.RowKit
set_option linter.unusedVariables false
set_option linter.unusedSimpArgs false
attribute [local irreducible] deg invN dS qS stp stpr quoP resP
theorem Try.noGuard25 : Try.prog.eqGuardType Try.prog.depth 25 = false := by kernel_rfl
theorem eqN_zero (f : Nat → Nat) : eqN 64 f (fun _ => 0) = decide (deg f < 0) := by
 by_cases h : deg f < 0
 · rw [eqN_iff.2 (deg_neg_iff.1 h)]; simp [h]
 · have : eqN 64 f (fun _ => 0) = false := by
    cases he : eqN 64 f (fun _ => 0) with
    | false => rfl
    | true => exact absurd (deg_neg_iff.2 (eqN_iff.1 he)) h
   rw [this]; simp [h]
theorem prime_of {n : Nat} {fs : List (Nat → Nat)} (h : codeL (n : Int) fs = 0) : n = 2 ∨ n = 3 ∨ n = 5 ∨ n = 7 := by
 rcases okP_cases (codeL_zero h).1 with h | h | h | h <;> omega
end Go.Proofs.Ytifdkepkedlmoaa
end
section
namespace Go.Proofs.Ytifdkepkedlmoaa
open Go.RowKit
set_option linter.unusedVariables false
set_option linter.unusedSimpArgs false
attribute [local irreducible] deg invN dS qS stp stpr quoP resP
theorem one64 : zb 64 oneP = #[.int .u8 1, .int .u8 0, .int .u8 0, .int .u8 0, .int .u8 0, .int .u8 0, .int .u8 0, .int .u8 0, .int .u8 0, .int .u8 0, .int .u8 0, .int .u8 0, .int .u8 0, .int .u8 0, .int .u8 0, .int .u8 0, .int .u8 0, .int .u8 0, .int .u8 0, .int .u8 0, .int .u8 0, .int .u8 0, .int .u8 0, .int .u8 0, .int .u8 0, .int .u8 0, .int .u8 0, .int .u8 0, .int .u8 0, .int .u8 0, .int .u8 0, .int .u8 0, .int .u8 0, .int .u8 0, .int .u8 0, .int .u8 0, .int .u8 0, .int .u8 0, .int .u8 0, .int .u8 0, .int .u8 0, .int .u8 0, .int .u8 0, .int .u8 0, .int .u8 0, .int .u8 0, .int .u8 0, .int .u8 0, .int .u8 0, .int .u8 0, .int .u8 0, .int .u8 0, .int .u8 0, .int .u8 0, .int .u8 0, .int .u8 0, .int .u8 0, .int .u8 0, .int .u8 0, .int .u8 0, .int .u8 0, .int .u8 0, .int .u8 0, .int .u8 0] := by simp only [zb, bl, oneP]; kernel_rfl
set_option maxRecDepth 100000 in
set_option maxHeartbeats 400000 in
theorem scaled_any (p : Nat) (f : Nat → Nat) (c : Nat) (w : World) (hp1 : 2 ≤ p) (hp2 : p ≤ 7) (hf : ∀ i, i < 64 → f i < p) (hc : c < p) :
 Calls Try.prog 184 #[.int .i64 (p : Int), .agg (zb 64 f), .int .u8 (c : Int)] w fun e w' => e = .returned (.agg (zb 64 (sclP p f c))) ∧ Below w.heap.size w w' := by
 go_enter Try.func184, Try.ntmps184
 go_wp2_with fail
 have HF := Lib.hid hf; clear hf
 rw [← z64]
 go_loopw [8] (fun i wr => ∃ k : Nat, k ≤ 64 ∧ i = .int .i64 (k : Int) ∧ Below w.heap.size w wr ∧ Blk wr w.heap.size 64 25 (fun i => if i < k then sclP p f c i else f i) ∧ Blk wr (w.heap.size + 1) 64 25 (fun _ => 0)) (fun i _ => 64 - (intOf i).toNat)
 case atStart =>
  refine ⟨0, by omega, rfl, (((Below.refl _ _).alloc (Nat.le_refl _) _).alloc (by simp) _), ?_, ?_⟩
  · exact ((Blk.new w _ _ _).alloc _).congr (by simp)
  · have := (Blk.new (w.alloc (.cells (zb 64 f) 25)) 64 25 (fun _ => 0)); simpa using this
 case round =>
  obtain ⟨k, hk, rfl, hb, h0, h1⟩ := hrel
  by_cases hlt : k < 64
  · have c4 : wr.cell? ⟨w.heap.size, k, none⟩ = some (.int .u8 (f k : Int)) := by rw [h0.cell hlt]; simp
    have z4 := h0.frozen k
    have b1 : f k < p := HF.out k hlt
    obtain ⟨m1, m2⟩ := small_nat_mul hp2 b1 hc
    go_wp2_with fail
    go_roundw
    case rel =>
     refine ⟨k + 1, by omega, by go_num, (hb.setCell (by simp) _), ?_, ?_⟩
     · exact ((h0.set (v := sclP p f c k) (by unfold sclP; push_cast; rfl)).congr (fun i _ => upd_lt (a := sclP p f c) rfl i))
     · exact (h1.setOther (by simp))
    case measure => simp [intOf]; omega
  · have e : k = 64 := by omega
    subst e
    go_wp2_with (first | refine zlb rfl 25 _ rfl _ rfl 64 25 _ (h0) 5 Try.underlying25 Try.size25 ?_ | refine wpList_store_blk rfl 25 _ _ rfl _ 64 ((fun i => if i < 64 then sclP p f c i else f i)) rfl rfl 25 _ (h1) Try.size25 ?_)
    refine bodyPost_ret (zrb rfl _ _ _ 64 25 5 _ rfl (h1.row _) Try.underlying25 Try.size25) rfl ⟨?_, ?_⟩
    · rw [zbc (g := sclP p f c)]
      intro i hi; simp [hi]
    · exact below_setRow hb (by omega) _
set_option maxRecDepth 100000 in
theorem l01One_any (w : World) : Calls Try.prog 134 #[] w fun e w' => e = .returned (.agg (zb 64 oneP)) ∧ Below w.heap.size w w' := by
 go_enter Try.func134, Try.ntmps134
 go_upto_region 1 with (fail)
 rw [← z64]
 have b0 := Blk.new w 64 25 (fun _ => 0)
 go_wp2_with (first | (refine wpList_store_blk rfl 25 _ _ rfl _ 64 oneP rfl (by rw [one64]; rfl) 25 _ b0 Try.size25 ?_))
 refine bodyPost_ret (zrb rfl _ _ _ 64 25 5 _ rfl (b0.row _) Try.underlying25 Try.size25) rfl ⟨rfl, zr (zal _ _) (Nat.le_refl _) _⟩
/-- the degree of what lies in a block, and one more -/
def degAt (w : World) (b : Nat) : Nat := match w.heap[b]? with
 | some (.cells cs _ _) => (deg (fun i => match cs[i]? with
  | some (.int _ v) => v.toNat
  | _ => 0) + 1).toNat
 | _ => 0
theorem degAt_blk {w : World} {b n : Nat} {t : TypeId} {f : Nat → Nat} (h : Blk w b n t f) (hn : 64 ≤ n) : degAt w b = (deg f + 1).toNat := by
 unfold degAt
 have e : w.heap[b]? = some (.cells (zb n f) t (0, 0)) := by unfold Blk at h; exact h
 rw [e]
 simp only
 rw [deg_congr (g := f) (fun k hk => by rw [bcells_get (f := f) (show k < n by omega)]; simp)]
end Go.Proofs.Ytifdkepkedlmoaa
end
section
namespace Go.Proofs.Ytifdkepkedlmoaa
open Go Go.RowKit
section
variable {P : Program}
theorem wp_load_any {o : Oper} {a : Act} {w : World} {K : Act → World → Prop} {Q : Exit → Act → World → Prop} (ty : TypeId) (x : Operand) (ho : o.op = .load ty x)
 (b : Nat) (hx : a.eval x = .pointer (some ⟨b, 0, none⟩)) (n : Nat) (t : TypeId) (f : Nat → Nat) (hb : Blk w b n t f) (d : TypeDesc)
 (hu : P.underlying ty = some d) (hd : (match d with | .struct _ | .array _ _ => true | _ => false) = true) (hi : (P.info? ty).map (·.size) = some n) (h : K (a.put o.dst (.agg (zb n f))) w) : o.wp P a w K Q := by
 have hb' : w.heap[b]? = some (.cells (zb n f) t (0, 0)) := by unfold Blk at hb; exact hb
 exact wp_load_row ty x ho b hx t _ (0, 0) d hb' hu hd (by rw [zbs]; exact hi) h
theorem zlc {o : Oper} {a : Act} {w : World} {K : Act → World → Prop} {Q : Exit → Act → World → Prop} {ty : TypeId} {x : Operand} {b n : Nat} {t : TypeId} {f : Nat → Nat} {d : TypeDesc} (hb : Blk w b n t f) (hu : P.underlying ty = some d) (hi : (P.info? ty).map (·.size) = some n) (h : K (a.put o.dst (.agg (zb n f))) w) (ho : o.op = .load ty x := by rfl) (hx : a.eval x = .pointer (some ⟨b, 0, none⟩) := by rfl) (hd : (match d with | .struct _ | .array _ _ => true | _ => false) = true := by rfl) : o.wp P a w K Q := wp_load_any ty x ho b hx n t f hb d hu hd hi h
theorem wpList_load_any {ops : Array Oper} {rest : List Oper} {o : Oper} {a : Act} {w : World} {Q : Exit → Act → World → Prop} (hgd : o.guard = none) (ty : TypeId) (x : Operand) (ho : o.op = .load ty x)
 (b : Nat) (hx : a.eval x = .pointer (some ⟨b, 0, none⟩)) (n : Nat) (t : TypeId) (f : Nat → Nat) (hb : Blk w b n t f) (d : TypeDesc)
 (hu : P.underlying ty = some d) (hd : (match d with | .struct _ | .array _ _ => true | _ => false) = true) (hi : (P.info? ty).map (·.size) = some n)
 (h : wpList P ops Q rest (a.put o.dst (.agg (zb n f))) w) : wpList P ops Q (o :: rest) a w := by
 have hb' : w.heap[b]? = some (.cells (zb n f) t (0, 0)) := by unfold Blk at hb; exact hb
 exact wpList_load_row hgd ty x ho b hx t _ (0, 0) d hb' hu hd (by rw [zbs]; exact hi) h
theorem zla {ops : Array Oper} {rest : List Oper} {o : Oper} {a : Act} {w : World} {Q : Exit → Act → World → Prop} {ty : TypeId} {b n : Nat} {t : TypeId} {f : Nat → Nat} {d : TypeDesc} (x : Operand) (hb : Blk w b n t f) (hu : P.underlying ty = some d) (hi : (P.info? ty).map (·.size) = some n) (h : wpList P ops Q rest (a.put o.dst (.agg (zb n f))) w) (hgd : o.guard = none := by rfl) (ho : o.op = .load ty x := by rfl) (hx : a.eval x = .pointer (some ⟨b, 0, none⟩) := by rfl) (hd : (match d with | .struct _ | .array _ _ => true | _ => false) = true := by rfl) : wpList P ops Q (o :: rest) a w := wpList_load_any hgd ty x ho b hx n t f hb d hu hd hi h
theorem zsr {ops : Array Oper} {rest : List Oper} {o : Oper} {a : Act} {w : World} {Q : Exit → Act → World → Prop} {ty : TypeId} {b n : Nat} {t : TypeId} {f : Nat → Nat} (x y : Operand) (g : Nat → Nat) (hb : Blk w b n t f) (hi : (P.info? ty).map (·.size) = some n) (h : wpList P ops Q rest (a.put o.dst undef) (w.setRow b (zb n g))) (hgd : o.guard = none := by rfl) (ho : o.op = .store ty x y := by rfl) (hx : a.eval x = .pointer (some ⟨b, 0, none⟩) := by rfl) (hy : a.eval y = .agg (zb n g) := by rfl) : wpList P ops Q (o :: rest) a w := wpList_store_blk hgd ty x y ho b n g hx hy t f hb hi h
theorem zlg {ops : Array Oper} {rest : List Oper} {o : Oper} {a : Act} {w : World} {Q : Exit → Act → World → Prop} (hw : Region.wanted o (yielded ops a.tmps) = true) (ty : TypeId) (x : Operand) (ho : o.op = .load ty x)
 (b : Nat) (hx : a.eval x = .pointer (some ⟨b, 0, none⟩)) (n : Nat) (t : TypeId) (f : Nat → Nat) (hb : Blk w b n t f) (d : TypeDesc)
 (hu : P.underlying ty = some d) (hd : (match d with | .struct _ | .array _ _ => true | _ => false) = true) (hi : (P.info? ty).map (·.size) = some n)
 (h : wpList P ops Q rest (a.put o.dst (.agg (zb n f))) w) : wpList P ops Q (o :: rest) a w := by
 unfold wpList
 rw [if_pos hw]
 exact Or.inl (wp_load_any ty x ho b hx n t f hb d hu hd hi h)
theorem wp_build_of {o : Oper} {a : Act} {w : World} {K : Act → World → Prop} {Q : Exit → Act → World → Prop} (t : TypeId) (parts : Array (Nat × Operand)) (ho : o.op = .build t parts)
 (cells : Array Value) (hc : P.built t (parts.map fun (i, x) => (i, a.eval x)).toList = some cells) (h : K (a.put o.dst (.agg cells)) w) : o.wp P a w K Q := by
 refine wp_build t parts ho (by rw [hc]; rfl) ?_
 rw [hc]; exact h
theorem zbo {ops : Array Oper} {rest : List Oper} {o : Oper} {a : Act} {w : World} {Q : Exit → Act → World → Prop} (hg : o.guard = none) (t : TypeId) (parts : Array (Nat × Operand)) (ho : o.op = .build t parts)
 (cells : Array Value) (hc : P.built t (parts.map fun (i, x) => (i, a.eval x)).toList = some cells) (h : wpList P ops Q rest (a.put o.dst (.agg cells)) w) : wpList P ops Q (o :: rest) a w :=
 wpList_plain hg fun _ hK => wp_build_of t parts ho cells hc (hK _ _ h)
end
end Go.Proofs.Ytifdkepkedlmoaa
end
section
namespace Go.Proofs.Ytifdkepkedlmoaa
open Go.RowKit
set_option linter.unusedVariables false
set_option linter.unusedSimpArgs false
attribute [local irreducible] deg invN dS qS stp stpr quoP resP oneP bzD bzU bzW
/-- monic, of a degree in 1..c -/
def monUp (c : Int) (f : Nat → Nat) : Bool := decide (1 ≤ deg f ∧ deg f ≤ c ∧ f (deg f).toNat = 1)
def monB (f : Nat → Nat) : Bool := decide (0 ≤ deg f ∧ f (deg f).toNat = 1)
theorem monUp_no1 {c : Int} {f : Nat → Nat} (h : ¬ 1 ≤ deg f) : monUp c f = false := by unfold monUp; simp; intro h2; omega
theorem monUp_no2 {c : Int} {f : Nat → Nat} (h : ¬ deg f ≤ c) : monUp c f = false := by unfold monUp; simp; intro _ h2; omega
theorem monUp_at {c : Int} {f : Nat → Nat} {m : Nat} (hm : deg f = (m : Int)) (h1 : 1 ≤ m) (h2 : (m : Int) ≤ c) : monUp c f = ((f m : Int) == 1) := by
 unfold monUp
 rw [hm, Int.toNat_natCast, Bool.eq_iff_iff]
 simp
 omega
theorem monB_no {f : Nat → Nat} (h : ¬ 0 ≤ deg f) : monB f = false := by unfold monB; simp; intro h2; omega
theorem monB_at {f : Nat → Nat} {m : Nat} (hm : deg f = (m : Int)) : monB f = ((f m : Int) == 1) := by
 unfold monB
 rw [hm, Int.toNat_natCast, Bool.eq_iff_iff]
 simp
 omega
theorem monUp_B {c : Int} {f : Nat → Nat} : monUp c f = (monB f && decide (1 ≤ deg f ∧ deg f ≤ c)) := by
 unfold monUp monB
 rw [Bool.eq_iff_iff]
 simp
 constructor
 · rintro ⟨a, b, c⟩; exact ⟨⟨by omega, c⟩, a, b⟩
 · rintro ⟨⟨a, b⟩, c, d⟩; exact ⟨c, d, b⟩
theorem mon_up {c : Int} {f : Nat → Nat} (h : monUp c f = true) : ∃ d : Nat, mon f d ∧ 1 ≤ d ∧ (d : Int) ≤ c := by
 unfold monUp at h
 simp at h
 obtain ⟨d, hd⟩ : ∃ d : Nat, deg f = (d : Int) := ⟨(deg f).toNat, by omega⟩
 refine ⟨d, ⟨hd, ?_⟩, by omega, by omega⟩
 have := h.2.2
 rwa [hd, Int.toNat_natCast] at this
set_option maxRecDepth 100000 in
set_option maxHeartbeats 400000 in
theorem isMonicUpTo_any (c : Int) (f : Nat → Nat) (hf : byte f) (w : World) (c1 : 0 ≤ c) (c2 : c ≤ 63) :
 Calls Try.prog 116 #[.int .i64 c, .agg (zb 64 f)] w fun e w' => e = .returned (.bool (monUp c f)) ∧ Below w.heap.size w w' := by
 obtain ⟨fb1, fb2⟩ := zdb f
 go_enter Try.func116, Try.ntmps116
 go_upto_region 1 with (fail)
 obtain ⟨W1, hwo⟩ : ∃ v : World, v = (w.alloc (.cells (zb 64 (f)) 25)) := ⟨_, rfl⟩
 have B0 : Blk W1 (w.heap.size) 64 25 (f) := by subst hwo; have := (Blk.new w 64 25 (f)); simpa using this
 have hb : Below w.heap.size w W1 := by subst hwo; exact ((Below.refl _ _).alloc (Nat.le_refl _) _)
 rw [← hwo]
 clear hwo
 go_upto_region 2 with (first | (refine zla (.tmp 3) B0 Try.underlying25 Try.size25 ?_) | (go_at_call 141; refine (degree_any f _).mono ?_; rintro e W2 ⟨rfl, hW2⟩; replace B0 := B0.zw hW2; replace hb := (hb).trans (hW2.mono (hb).size)))
 by_cases h1 : 1 ≤ deg f
 · by_cases h2 : deg f ≤ c
   · obtain ⟨m, hm⟩ : ∃ m : Nat, deg f = (m : Int) := ⟨(deg f).toNat, by omega⟩
     have HV := Lib.hid (monUp_at (c := c) hm (by omega) (by omega))
     rw [hm]
     have cc := B0.cell (i := m) (by omega)
     have hfm := hf m
     have g1 : (1 : Int) ≤ (m : Int) := by omega
     have g2 : (m : Int) ≤ c := by omega
     have g3 : m < 64 := by omega
     clear hm h1 h2
     go_wp2_with fail
     go_ret
     exact ⟨ret_bool HV.out.symm, hb⟩
   · have HV := Lib.hid (monUp_no2 (c := c) h2)
     have h3 : c < deg f := by omega
     clear h2
     go_wp2_with fail
     go_ret
     exact ⟨ret_bool HV.out.symm, hb⟩
 · have HV := Lib.hid (monUp_no1 (c := c) h1)
   have h3 : deg f < 1 := by omega
   clear h1
   go_wp2_with fail
   go_ret
   exact ⟨ret_bool HV.out.symm, hb⟩
set_option maxRecDepth 100000 in
theorem l01Monic_any (f : Nat → Nat) (hf : byte f) (w : World) : Calls Try.prog 111 #[.agg (zb 64 f)] w fun e w' => e = .returned (.bool (monB f)) ∧ Below w.heap.size w w' := by
 obtain ⟨fb1, fb2⟩ := zdb f
 go_enter Try.func111, Try.ntmps111
 go_upto_region 1 with (fail)
 obtain ⟨W1, hwo⟩ : ∃ v : World, v = (w.alloc (.cells (zb 64 (f)) 25)) := ⟨_, rfl⟩
 have B0 : Blk W1 (w.heap.size) 64 25 (f) := by subst hwo; have := (Blk.new w 64 25 (f)); simpa using this
 have hb : Below w.heap.size w W1 := by subst hwo; exact ((Below.refl _ _).alloc (Nat.le_refl _) _)
 rw [← hwo]
 clear hwo
 go_upto_region 2 with (first | (refine zla (.tmp 1) B0 Try.underlying25 Try.size25 ?_) | (go_at_call 113; refine (l01Deg_any f _).mono ?_; rintro e W2 ⟨rfl, hW2⟩; replace B0 := B0.zw hW2; replace hb := (hb).trans (hW2.mono (hb).size)))
 by_cases h1 : 0 ≤ deg f
 · obtain ⟨m, hm⟩ : ∃ m : Nat, deg f = (m : Int) := ⟨(deg f).toNat, by omega⟩
   have HV := Lib.hid (monB_at hm)
   rw [hm]
   have cc := B0.cell (i := m) (by omega)
   have hfm := hf m
   have g3 : m < 64 := by omega
   clear hm h1
   go_wp2_with fail
   go_ret
   exact ⟨ret_bool HV.out.symm, hb⟩
 · have HV := Lib.hid (monB_no h1)
   have h3 : deg f < 0 := by omega
   clear h1
   go_wp2_with fail
   go_ret
   exact ⟨ret_bool HV.out.symm, hb⟩
end Go.Proofs.Ytifdkepkedlmoaa
end
section
namespace Go.Proofs.Ytifdkepkedlmoaa
open Go.RowKit
set_option linter.unusedVariables false
set_option linter.unusedSimpArgs false
attribute [local irreducible] deg invN dS qS stp stpr quoP resP oneP bzD bzU bzW
set_option maxRecDepth 100000 in
set_option maxHeartbeats 400000 in
theorem l01Mod_any (p : Nat) (f m : Nat → Nat) (w : World) (hpr : p = 2 ∨ p = 3 ∨ p = 5 ∨ p = 7) (lf : ∀ k, k < 64 → f k < p) (lm : ∀ k, k < 64 → m k < p) (h0 : 0 ≤ deg m) :
 Calls Try.prog 135 #[.int .i64 (p : Int), .agg (zb 64 f), .agg (zb 64 m)] w fun e w' => e = .returned (.agg (zb 64 (resP p f m))) ∧ Below w.heap.size w w' := by
 go_enter Try.func135, Try.ntmps135
 go_upto_region 1 with (fail)
 rw [← z64]
 obtain ⟨W1, hwo⟩ : ∃ v : World, v = (((w.alloc (.cells (zb 64 (f)) 25)).alloc (.cells (zb 64 (m)) 25)).alloc (.cells (zb 64 fun _ => 0) 25)) := ⟨_, rfl⟩
 have B0 : Blk W1 (w.heap.size) 64 25 (f) := by subst hwo; have := (((Blk.new w 64 25 (f)).alloc (.cells (zb 64 (m)) 25)).alloc (.cells (zb 64 fun _ => 0) 25)); simpa using this
 have B1 : Blk W1 (w.heap.size + 1) 64 25 (m) := by subst hwo; have := ((Blk.new (w.alloc (.cells (zb 64 (f)) 25)) 64 25 (m)).alloc (.cells (zb 64 fun _ => 0) 25)); simpa using this
 have B2 : Blk W1 (w.heap.size + 1 + 1) 64 25 (fun _ => 0) := by subst hwo; have := (Blk.new ((w.alloc (.cells (zb 64 (f)) 25)).alloc (.cells (zb 64 (m)) 25)) 64 25 (fun _ => 0)); simpa using this
 have hb : Below w.heap.size w W1 := by subst hwo; exact ((((Below.refl _ _).alloc (Nat.le_refl _) _).alloc (by simp) _).alloc (by simp; omega) _)
 rw [← hwo]
 clear hwo
 have lt_B0 := B0.lt
 have lt_B1 := B1.lt
 have lt_B2 := B2.lt
 go_upto_region 2 with (first | rw [← z64] | (refine zla (.tmp 4) B0 Try.underlying25 Try.size25 ?_) | (refine zla (.tmp 5) B1 Try.underlying25 Try.size25 ?_) | (go_at_call 145; refine (l01Divide_any p f m _ hpr lf lm h0).mono ?_; rintro e W2 ⟨rfl, hW2⟩; replace B0 := B0.zw hW2; replace B1 := B1.zw hW2; replace B2 := B2.zw hW2; replace hb := (hb).trans (hW2.mono (hb).size)) | (refine wpList_store_blk rfl 25 (.tmp 7) (.tmp 14) rfl _ 64 (quoP p f m) rfl rfl 25 _ (((Blk.new W2 64 25 (fun _ => 0)).alloc (.cells (zb 64 fun _ => 0) 25))) Try.size25 ?_; try simp only [Act.put]) | (refine wpList_store_blk rfl 25 (.tmp 8) (.tmp 15) rfl _ 64 (resP p f m) rfl rfl 25 _ (((show Blk ((W2.alloc (.cells (zb 64 fun _ => 0) 25)).alloc (.cells (zb 64 fun _ => 0) 25)) (W2.heap.size + 1) 64 25 (fun _ => 0) by have := Blk.new (W2.alloc (.cells (zb 64 fun _ => 0) 25)) 64 25 (fun _ => 0); simpa using this).rowOther (by omega))) Try.size25 ?_; try simp only [Act.put]))
 have lt_B0 := B0.lt
 have lt_B1 := B1.lt
 have lt_B2 := B2.lt
 have lhb := hb.size
 obtain ⟨W3, hwo, hzQ⟩ : ∃ v : World, v = ((((W2.alloc (.cells (zb 64 fun _ => 0) 25)).alloc (.cells (zb 64 fun _ => 0) 25)).setRow (W2.heap.size) (zb 64 (quoP p f m))).setRow (W2.heap.size + 1) (zb 64 (resP p f m))) ∧ Blk v (w.heap.size) 64 25 (f) ∧ Blk v (w.heap.size + 1) 64 25 (m) ∧ Blk v (w.heap.size + 1 + 1) 64 25 (fun _ => 0) ∧ Blk v (W2.heap.size) 64 25 (quoP p f m) ∧ Blk v (W2.heap.size + 1) 64 25 (resP p f m) ∧ Below w.heap.size w v := ⟨_, rfl, ((((B0.alloc (.cells (zb 64 fun _ => 0) 25)).alloc (.cells (zb 64 fun _ => 0) 25)).rowOther (by omega)).rowOther (by omega)), ((((B1.alloc (.cells (zb 64 fun _ => 0) 25)).alloc (.cells (zb 64 fun _ => 0) 25)).rowOther (by omega)).rowOther (by omega)), ((((B2.alloc (.cells (zb 64 fun _ => 0) 25)).alloc (.cells (zb 64 fun _ => 0) 25)).rowOther (by omega)).rowOther (by omega)), ((((Blk.new W2 64 25 (fun _ => 0)).alloc (.cells (zb 64 fun _ => 0) 25)).row (quoP p f m)).rowOther (by omega)), (((show Blk ((W2.alloc (.cells (zb 64 fun _ => 0) 25)).alloc (.cells (zb 64 fun _ => 0) 25)) (W2.heap.size + 1) 64 25 (fun _ => 0) by have := Blk.new (W2.alloc (.cells (zb 64 fun _ => 0) 25)) 64 25 (fun _ => 0); simpa using this).rowOther (by omega)).row (resP p f m)), (zr (zr ((hb.alloc (by have := hb.size; simp; omega) (.cells (zb 64 fun _ => 0) 25)).alloc (by have := hb.size; simp; omega) (.cells (zb 64 fun _ => 0) 25)) (by omega) _) (by omega) _)⟩
 rw [← hwo]
 clear hwo B0 B1 B2 hb
 obtain ⟨B0, B1, B2, B3, B4, hb⟩ := hzQ
 obtain ⟨N1, hNN⟩ : ∃ n : Nat, n = W2.heap.size := ⟨_, rfl⟩
 rw [← hNN] at lt_B0 lt_B1 lt_B2 lhb B3 B4 ⊢
 clear hNN
 have zN1_0 := lt_B0
 have zN1_1 := lt_B1
 have zN1_2 := lt_B2
 have zN1 := lhb
 clear lt_B0 lt_B1 lt_B2 lhb
 try simp only [Act.put, pA, pB, pC]
 have lt_B0 := B0.lt
 have lt_B1 := B1.lt
 have lt_B2 := B2.lt
 have lt_B3 := B3.lt
 have lt_B4 := B4.lt
 go_wp2_with (first | rw [← z64] | (refine zla (.tmp 8) B4 Try.underlying25 Try.size25 ?_) | (refine zsr (.tmp 6) (.tmp 16) (resP p f m) B2 Try.size25 ?_; try simp only [Act.put]))
 obtain ⟨W4, hwo, hzQ⟩ : ∃ v : World, v = (W3.setRow (w.heap.size + 1 + 1) (zb 64 (resP p f m))) ∧ Blk v (w.heap.size) 64 25 (f) ∧ Blk v (w.heap.size + 1) 64 25 (m) ∧ Blk v (w.heap.size + 1 + 1) 64 25 (resP p f m) ∧ Blk v (N1) 64 25 (quoP p f m) ∧ Blk v (N1 + 1) 64 25 (resP p f m) ∧ Below w.heap.size w v := ⟨_, rfl, (B0.rowOther (by omega)), (B1.rowOther (by omega)), (B2.row (resP p f m)), (B3.rowOther (by omega)), (B4.rowOther (by omega)), (zr hb (by omega) _)⟩
 rw [← hwo]
 clear hwo B0 B1 B2 B3 B4 hb
 obtain ⟨B0, B1, B2, B3, B4, hb⟩ := hzQ
 try simp only [Act.put, pA, pB, pC]
 refine bodyPost_ret (zrb rfl _ _ _ 64 25 5 _ rfl B2 Try.underlying25 Try.size25) rfl ⟨rfl, hb⟩
end Go.Proofs.Ytifdkepkedlmoaa
end
