/-
  What the rows of this claim rest on: arrays of bytes, walks of the functions, plain mathematics.
-/
import Derived.Test.YtelgefgphhebnaaZs2
section
namespace Go.Proofs.Ytelgefgphhebnaa
/-- sums and products as in the whole numbers -/
class Rg (R : Type) extends Add R, Mul R, Neg R where
 o : R
 e : R
 acomm : ∀ a b : R, a + b = b + a
 aassoc : ∀ a b c : R, a + b + c = a + (b + c)
 oadd : ∀ a : R, o + a = a
 nadd : ∀ a : R, -a + a = o
 mcomm : ∀ a b : R, a * b = b * a
 massoc : ∀ a b c : R, a * b * c = a * (b * c)
 emul : ∀ a : R, e * a = a
 madd : ∀ a b c : R, a * (b + c) = a * b + a * c
namespace Rg
variable {R : Type} [Rg R]
theorem addo (a : R) : a + o = a := by rw [acomm]; exact oadd a
theorem mule (a : R) : a * e = a := by rw [mcomm]; exact emul a
theorem addm (a b c : R) : (b + c) * a = b * a + c * a := by rw [mcomm, madd, mcomm a b, mcomm a c]
theorem alcomm (a b c : R) : a + (b + c) = b + (a + c) := by rw [← aassoc, acomm a b, aassoc]
theorem mlcomm (a b c : R) : a * (b * c) = b * (a * c) := by rw [← massoc, mcomm a b, massoc]
theorem cancel {a b c : R} (h : a + b = a + c) : b = c := by
 have h2 : -a + (a + b) = -a + (a + c) := by rw [h]
 rwa [← aassoc, ← aassoc, nadd, oadd, oadd] at h2
theorem mulo (a : R) : a * o = o := by
 have h : a * o + a * o = a * o + o := by rw [← madd, oadd, addo]
 exact cancel h
theorem omul (a : R) : o * a = o := by rw [mcomm]; exact mulo a
theorem diff (x r : R) : ∃ d, x = r + d := ⟨-r + x, by rw [← aassoc, acomm r, nadd, oadd]⟩
/-- a^n -/
def pw (a : R) : Nat → R
 | 0 => e
 | n + 1 => a * pw a n
theorem pw_add (a : R) (m : Nat) : ∀ n, pw a (m + n) = pw a m * pw a n
 | 0 => by rw [Nat.add_zero]; exact (mule _).symm
 | n + 1 => by
  show a * pw a (m + n) = pw a m * (a * pw a n)
  rw [pw_add a m n, mlcomm]
theorem pw_one : ∀ n, pw (e : R) n = e
 | 0 => rfl
 | n + 1 => by show e * pw e n = e; rw [pw_one n, emul]
theorem pw_mul (a b : R) : ∀ n, pw (a * b) n = pw a n * pw b n
 | 0 => (emul _).symm
 | n + 1 => by
  show a * b * pw (a * b) n = a * pw a n * (b * pw b n)
  rw [pw_mul a b n, massoc, massoc, mlcomm b]
theorem pw_pw (a : R) (m : Nat) : ∀ n, pw (pw a m) n = pw a (m * n)
 | 0 => rfl
 | n + 1 => by
  show pw a m * pw (pw a m) n = pw a (m * n + m)
  rw [pw_pw a m n, pw_add, mcomm]
/-- k times a -/
def nm : Nat → R → R
 | 0, _ => o
 | k + 1, a => nm k a + a
theorem nm_add (a : R) (j : Nat) : ∀ k, nm (j + k) a = nm j a + nm k a
 | 0 => (addo _).symm
 | k + 1 => by show nm (j + k) a + a = nm j a + (nm k a + a); rw [nm_add a j k, aassoc]
theorem nm_mul (a b : R) : ∀ k, nm k a * b = nm k (a * b)
 | 0 => omul b
 | k + 1 => by show (nm k a + a) * b = nm k (a * b) + a * b; rw [addm, nm_mul a b k]
theorem mul_nm (a b : R) (k : Nat) : a * nm k b = nm k (a * b) := by rw [mcomm, nm_mul, mcomm]
theorem nm_one (a : R) : nm 1 a = a := oadd a
theorem nm_nm (a : R) (j : Nat) : ∀ k, nm k (nm j a) = nm (j * k) a
 | 0 => rfl
 | k + 1 => by show nm k (nm j a) + nm j a = nm (j * k + j) a; rw [nm_nm a j k, nm_add]
theorem nm_char {p : Nat} (h : nm p (e : R) = o) (a : R) : nm p a = o := by
 have := nm_mul e a p
 rw [h, omul, emul] at this
 exact this.symm
theorem nm_mult {p : Nat} (h : nm p (e : R) = o) (k : Nat) (a : R) : nm (p * k) a = o := by
 have h0 : ∀ k, nm k (o : R) = o := by
  intro k
  induction k with
  | zero => rfl
  | succ k ih => show nm k o + o = o; rw [ih, oadd]
 rw [← nm_nm, nm_char h, h0]
/-- the sum of c(i) x^i y^(n - i), for the n + 1 numbers of a list -/
def hm (x y : R) : List Nat → R
 | [] => o
 | c :: cs => nm c (pw y cs.length) + x * hm x y cs
def pas : Nat → List Nat → List Nat
 | q, [] => [q]
 | q, c :: cs => (q + c) :: pas c cs
theorem pas_len : ∀ q cs, (pas q cs).length = cs.length + 1
 | _, [] => rfl
 | _, c :: cs => by show (pas c cs).length + 1 = _; rw [pas_len c cs]; rfl
theorem hm_pas (x y : R) : ∀ (q : Nat) (cs : List Nat), hm x y (pas q cs) = nm q (pw y cs.length) + (x + y) * hm x y cs
 | q, [] => by
  show nm q (pw y 0) + x * o = nm q (pw y 0) + (x + y) * o
  rw [mulo, mulo]
 | q, c :: cs => by
  show nm (q + c) (pw y (pas c cs).length) + x * hm x y (pas c cs) = nm q (pw y (cs.length + 1)) + (x + y) * (nm c (pw y cs.length) + x * hm x y cs)
  rw [hm_pas x y c cs, pas_len, nm_add, aassoc]
  congr 1
  have h1 : nm c (pw y (cs.length + 1)) = y * nm c (pw y cs.length) := (mul_nm _ _ _).symm
  rw [h1, madd, madd, addm, addm, aassoc, mlcomm (x + y) x, addm]
  exact alcomm _ _ _
def row : Nat → List Nat
 | 0 => [1]
 | n + 1 => pas 0 (row n)
theorem binom (x y : R) : ∀ n, pw (x + y) n = hm x y (row n)
 | 0 => by show e = nm 1 (pw y 0) + x * o; rw [mulo, addo, nm_one]; rfl
 | n + 1 => by
  show (x + y) * pw (x + y) n = hm x y (pas 0 (row n))
  rw [hm_pas, binom x y n]
  exact (oadd _).symm
theorem frob_add {p : Nat} (hp : p = 2 ∨ p = 3 ∨ p = 5 ∨ p = 7) (hc : nm p (e : R) = o) (x y : R) : pw (x + y) p = pw x p + pw y p := by
 rw [binom]
 have h2 : ∀ k (a : R), nm (p * k) a = o := nm_mult hc
 rcases hp with rfl | rfl | rfl | rfl
 · show nm 1 (pw y 2) + x * (nm (2 * 1) (pw y 1) + x * (nm 1 (pw y 0) + x * o)) = x * (x * e) + pw y 2
   rw [h2, mulo, addo, nm_one, nm_one, oadd, acomm]; rfl
 · show nm 1 (pw y 3) + x * (nm (3 * 1) (pw y 2) + x * (nm (3 * 1) (pw y 1) + x * (nm 1 (pw y 0) + x * o))) = x * (x * (x * e)) + pw y 3
   rw [h2, h2, mulo, addo, nm_one, nm_one, oadd, oadd, acomm]; rfl
 · show nm 1 (pw y 5) + x * (nm (5 * 1) (pw y 4) + x * (nm (5 * 2) (pw y 3) + x * (nm (5 * 2) (pw y 2) + x * (nm (5 * 1) (pw y 1) + x * (nm 1 (pw y 0) + x * o))))) = x * (x * (x * (x * (x * e)))) + pw y 5
   simp only [h2, mulo, addo, nm_one, oadd]; rw [acomm]; rfl
 · show nm 1 (pw y 7) + x * (nm (7 * 1) (pw y 6) + x * (nm (7 * 3) (pw y 5) + x * (nm (7 * 5) (pw y 4) + x * (nm (7 * 5) (pw y 3) + x * (nm (7 * 3) (pw y 2) + x * (nm (7 * 1) (pw y 1) + x * (nm 1 (pw y 0) + x * o))))))) = x * (x * (x * (x * (x * (x * (x * e)))))) + pw y 7
   simp only [h2, mulo, addo, nm_one, oadd]; rw [acomm]; rfl
/-- a polynomial function of the degree n with the leading coefficient c -/
def PolF : Nat → R → (R → R) → Prop
 | 0, c, f => f = fun _ => c
 | n + 1, c, f => ∃ a g, PolF n c g ∧ f = fun x => a + x * g x
theorem polF_step {n : Nat} {c : R} {g : R → R} (a : R) (h : PolF n c g) : PolF (n + 1) c (fun x => a + x * g x) := ⟨a, g, h, rfl⟩
theorem polF_const (c : R) : PolF 0 c (fun _ => c) := rfl
theorem polF_factor : ∀ (n : Nat) {c : R} {f : R → R}, PolF (n + 1) c f → ∀ r, ∃ h, PolF n c h ∧ ∀ d, f (r + d) = f r + d * h (r + d)
 | 0, c, f, hf, r => by
  obtain ⟨a, g, hg, rfl⟩ := hf
  have hg : g = fun _ => c := hg
  subst hg
  refine ⟨fun _ => c, rfl, fun d => ?_⟩
  show a + (r + d) * c = a + r * c + d * c
  rw [addm, aassoc]
 | n + 1, c, f, hf, r => by
  obtain ⟨a, g, hg, rfl⟩ := hf
  obtain ⟨h, hh, he⟩ := polF_factor n hg r
  refine ⟨fun x => g r + x * h x, polF_step _ hh, fun d => ?_⟩
  show a + (r + d) * g (r + d) = a + r * g r + d * (g r + (r + d) * h (r + d))
  rw [he d, madd, addm, madd, aassoc, aassoc, mlcomm d]
/-- no more roots than the degree tells -/
theorem roots_le (dom : ∀ a b : R, a * b = o → a = o ∨ b = o) : ∀ (n : Nat) {c : R} {f : R → R}, PolF n c f → c ≠ o → ∀ l : List R, l.Nodup → (∀ x, x ∈ l → f x = o) → l.length ≤ n
 | _, _, _, _, _, [], _, _ => Nat.zero_le _
 | 0, c, f, hf, hc, r :: l, _, hr => by
  have := hr r (List.mem_cons_self ..)
  rw [show f = fun _ => c from hf] at this
  exact absurd this hc
 | n + 1, c, f, hf, hc, r :: l, hn, hr => by
  obtain ⟨h, hh, he⟩ := polF_factor n hf r
  rw [List.nodup_cons] at hn
  have h0 := hr r (List.mem_cons_self ..)
  have := roots_le dom n hh hc l hn.2 (fun x hx => by
   obtain ⟨d, hd⟩ := diff x r
   have h1 := hr x (List.mem_cons_of_mem _ hx)
   rw [hd, he d, h0, oadd] at h1
   rcases dom _ _ h1 with h2 | h2
   · exfalso
     rw [h2, addo] at hd
     rw [hd] at hx
     exact hn.1 hx
   · rw [hd]; exact h2)
  show l.length + 1 ≤ n + 1
  omega
theorem polF_pw : ∀ n, PolF n (e : R) (fun x => pw x n)
 | 0 => polF_const e
 | n + 1 => by
  have := polF_step o (polF_pw n : PolF n (e : R) _)
  have h : (fun x : R => o + x * pw x n) = fun x => pw x (n + 1) := by funext x; exact oadd _
  rwa [h] at this
theorem polF_fix (n : Nat) : PolF (n + 2) (e : R) (fun x => -x + pw x (n + 2)) := by
 have h1 := polF_step o (polF_step (-e) (polF_pw n : PolF n (e : R) _))
 have h : (fun x : R => o + x * (-e + x * pw x n)) = fun x => -x + pw x (n + 2) := by
  funext x
  rw [oadd, madd]
  have : x * -e = -x := by
   have h2 : x + x * -e = x + -x := by
    have h3 : x + x * -e = x * (e + -e) := by rw [madd, mule]
    rw [h3, acomm e, nadd, mulo, acomm x, nadd]
   exact cancel h2
  rw [this]; rfl
 rwa [h] at h1
theorem nodup_le {α : Type} : ∀ (l E : List α), l.Nodup → (∀ x, x ∈ l → x ∈ E) → l.length ≤ E.length
 | [], _, _, _ => Nat.zero_le _
 | a :: l, E, hn, hs => by
  rw [List.nodup_cons] at hn
  obtain ⟨s, t, rfl⟩ := List.append_of_mem (hs a (List.mem_cons_self ..))
  have := nodup_le l (s ++ t) hn.2 (fun x hx => by
   have := hs x (List.mem_cons_of_mem _ hx)
   simp only [List.mem_append, List.mem_cons] at this ⊢
   rcases this with h | h | h
   · exact .inl h
   · subst h; exact absurd hx hn.1
   · exact .inr h)
  simp only [List.length_append, List.length_cons] at this ⊢
  omega
/-- x^(p^i) -/
def fr' (p : Nat) (i : Nat) (x : R) : R := pw x (p ^ i)
theorem fr_s (p i : Nat) (x : R) : fr' p (i + 1) x = pw (fr' p i x) p := by
 unfold fr'; rw [pw_pw, Nat.pow_succ]
theorem fr_z (p : Nat) (x : R) : fr' p 0 x = x := by
 show x * e = x; exact mule x
theorem fr_add (p i : Nat) (x : R) : ∀ j, fr' p (i + j) x = fr' p j (fr' p i x) := by
 intro j
 unfold fr'
 rw [pw_pw, Nat.pow_add]
theorem fr_sum {p : Nat} (hp : p = 2 ∨ p = 3 ∨ p = 5 ∨ p = 7) (hc : nm p (e : R) = o) (x y : R) : ∀ i, fr' p i (x + y) = fr' p i x + fr' p i y
 | 0 => by rw [fr_z, fr_z, fr_z]
 | i + 1 => by rw [fr_s, fr_sum hp hc x y i, frob_add hp hc, ← fr_s, ← fr_s]
theorem fr_mul (p i : Nat) (x y : R) : fr' p i (x * y) = fr' p i x * fr' p i y := pw_mul x y _
theorem fr_one (p i : Nat) : fr' p i (e : R) = e := pw_one _
theorem pw_o {n : Nat} (h : 0 < n) : pw (o : R) n = o := by
 obtain ⟨m, rfl⟩ : ∃ m, n = m + 1 := ⟨n - 1, by omega⟩
 exact omul _
theorem fr_o {p : Nat} (hp : 0 < p) (i : Nat) : fr' p i (o : R) = o := pw_o (Nat.pow_pos hp)
theorem fr_nm {p : Nat} (hp : p = 2 ∨ p = 3 ∨ p = 5 ∨ p = 7) (hc : nm p (e : R) = o) (i : Nat) : ∀ k, fr' p i (nm k (e : R)) = nm k e
 | 0 => fr_o (by omega) i
 | k + 1 => by show fr' p i (nm k e + e) = nm k e + e; rw [fr_sum hp hc, fr_nm hp hc i k, fr_one]
/-- the sum of c(i) x^i -/
def pe : List Nat → R → R
 | [], _ => o
 | c :: cs, x => nm c e + x * pe cs x
theorem fr_pe {p : Nat} (hp : p = 2 ∨ p = 3 ∨ p = 5 ∨ p = 7) (hc : nm p (e : R) = o) (i : Nat) (x : R) : ∀ cs, fr' p i (pe cs x) = pe cs (fr' p i x)
 | [] => fr_o (by omega) i
 | c :: cs => by
  show fr' p i (nm c e + x * pe cs x) = nm c e + fr' p i x * pe cs (fr' p i x)
  rw [fr_sum hp hc, fr_nm hp hc, fr_mul, fr_pe hp hc i x cs]
theorem polF_pe : ∀ (cs : List Nat), PolF cs.length (e : R) (pe (cs ++ [1]))
 | [] => by
  have : pe [1] = fun _ : R => (e : R) := by funext x; show nm 1 e + x * o = e; rw [mulo, addo, nm_one]
  show PolF 0 e (pe [1])
  rw [this]; exact polF_const e
 | c :: cs => polF_step _ (polF_pe cs)
section
variable (dom : ∀ a b : R, a * b = o → a = o ∨ b = o)
include dom
theorem fr_inj {p : Nat} (hp : p = 2 ∨ p = 3 ∨ p = 5 ∨ p = 7) (hc : nm p (e : R) = o) {i : Nat} {x y : R} (h : fr' p i x = fr' p i y) : x = y := by
 have pw_zero : ∀ (n : Nat) (a : R), pw a n = o → a = o ∨ (e : R) = o := by
  intro n
  induction n with
  | zero => intro a h; exact .inr h
  | succ n ih =>
   intro a h
   rcases dom _ _ h with h | h
   · exact .inl h
   · exact ih a h
 obtain ⟨d, hd⟩ := diff x y
 rw [hd, fr_sum hp hc] at h
 have h2 : fr' p i y + fr' p i d = fr' p i y + o := by rw [h, addo]
 rcases pw_zero _ _ (cancel h2) with h3 | h3
 · rw [hd, h3, addo]
 · rw [← emul x, ← emul y, h3, omul, omul]
/-- what is left alone by the power p^n of all has at most p^n elements -/
theorem fix_all {p n : Nat} (hp : p = 2 ∨ p = 3 ∨ p = 5 ∨ p = 7) (hne : (e : R) ≠ o) (hn : 1 ≤ n) (l : List R) (hl : l.Nodup) (h : ∀ x, x ∈ l → fr' p n x = x) : l.length ≤ p ^ n := by
 have h2 : 2 ≤ p ^ n := by
  have h3 : p ^ 1 ≤ p ^ n := Nat.pow_le_pow_right (by omega) hn
  rw [Nat.pow_one] at h3
  omega
 obtain ⟨k, hk⟩ : ∃ k, p ^ n = k + 2 := ⟨p ^ n - 2, by omega⟩
 have := roots_le dom (k + 2) (polF_fix k) hne l hl (fun x hx => by
  have := h x hx
  unfold fr' at this
  rw [hk] at this
  rw [this, nadd])
 omega
/-- T to the power p^d is T, and no lesser one, if T generates d digits -/
theorem field_main {p d : Nat} (hp : p = 2 ∨ p = 3 ∨ p = 5 ∨ p = 7) (hc : nm p (e : R) = o) (hne : (e : R) ≠ o) (t : R)
 (E : List R) (hE : E.Nodup) (hlen : E.length = p ^ d) (hall : ∀ x : R, x ∈ E) (hcs : ∀ x : R, ∃ cs, x = pe cs t) (P : List Nat) (hP : P.length = d) (hroot : pe (P ++ [1]) t = o) :
 fr' p d t = t ∧ ∀ n, 1 ≤ n → fr' p n t = t → d ≤ n := by
 have low : ∀ n, 1 ≤ n → fr' p n t = t → d ≤ n := by
  intro n hn ht
  have h1 := fix_all dom hp hne hn E hE (fun x _ => by
   obtain ⟨cs, rfl⟩ := hcs x
   rw [fr_pe hp hc, ht])
  rw [hlen] at h1
  by_cases h : d ≤ n
  · exact h
  · exfalso
    have : p ^ n < p ^ d := Nat.pow_lt_pow_right (by omega) (by omega)
    omega
 refine ⟨?_, low⟩
 -- some power comes back
 have hex : ∃ k, 1 ≤ k ∧ fr' p k t = t := by
  by_cases h : ((List.range (E.length + 1)).map fun i => fr' p i t).Nodup
  · have := nodup_le _ E h (fun x _ => hall x)
    simp at this
    omega
  · apply Classical.byContradiction
    intro hno
    apply h
    rw [List.nodup_iff_pairwise_ne, List.pairwise_map]
    refine List.Pairwise.imp ?_ List.pairwise_lt_range
    intro i j hij heq
    apply hno
    refine ⟨j - i, by omega, ?_⟩
    have : fr' p j t = fr' p i (fr' p (j - i) t) := by rw [← fr_add, show j - i + i = j by omega]
    rw [this] at heq
    exact (fr_inj dom hp hc heq).symm
 -- the least one
 have hmin : ∃ k, 1 ≤ k ∧ fr' p k t = t ∧ ∀ j, 1 ≤ j → j < k → fr' p j t ≠ t := by
  obtain ⟨k, hk⟩ := hex
  induction k using Nat.strongRecOn with
  | _ k ih =>
   by_cases h : ∃ j, 1 ≤ j ∧ j < k ∧ fr' p j t = t
   · obtain ⟨j, h1, h2, h3⟩ := h
     exact ih j h2 ⟨h1, h3⟩
   · exact ⟨k, hk.1, hk.2, fun j h1 h2 h3 => h ⟨j, h1, h2, h3⟩⟩
 obtain ⟨k, hk1, hk2, hk3⟩ := hmin
 have hle := roots_le dom _ (polF_pe P) hne ((List.range k).map fun i => fr' p i t) (by
  rw [List.nodup_iff_pairwise_ne, List.pairwise_map]
  refine List.Pairwise.imp_of_mem ?_ List.pairwise_lt_range
  intro i j hi hj hij heq
  have hj' : j < k := by simpa using hj
  have : fr' p j t = fr' p i (fr' p (j - i) t) := by rw [← fr_add, show j - i + i = j by omega]
  rw [this] at heq
  exact hk3 (j - i) (by omega) (by omega) (fr_inj dom hp hc heq).symm) (by
  intro x hx
  obtain ⟨i, _, rfl⟩ := List.mem_map.1 hx
  rw [← fr_pe hp hc, hroot, fr_o (by omega)])
 rw [List.length_map, List.length_range, hP] at hle
 have := low k hk1 hk2
 have e : k = d := by omega
 rw [← e]; exact hk2
end
end Rg
end Go.Proofs.Ytelgefgphhebnaa
namespace Go.Proofs.Ytelgefgphhebnaa
open Rg
def zS : Nat → Int := fun _ => 0
def oneS : Nat → Int := fun k => if k = 0 then 1 else 0
def TS : Nat → Int := fun k => if k = 1 then 1 else 0
theorem fin_zS : fin zS := ⟨0, fun _ _ => rfl⟩
theorem fin_TS : fin TS := ⟨2, fun k hk => by unfold TS; rw [if_neg (by omega)]⟩
theorem fin_oneS : fin oneS := fin_one
theorem az_comm (f g : Nat → Int) : az f g = az g f := by funext k; unfold az; omega
theorem az_assoc (f g h : Nat → Int) : az (az f g) h = az f (az g h) := by funext k; unfold az; omega
theorem zS_az (f : Nat → Int) : az zS f = f := by funext k; unfold az zS; omega
theorem neg_az (f : Nat → Int) : az (cz (-1) f) f = zS := by funext k; unfold az zS cz; omega
theorem mz_az2 (f g h : Nat → Int) : mz f (az g h) = az (mz f g) (mz f h) := by
 rw [mz_comm, mz_az, mz_comm g, mz_comm h]
theorem rm_cz {p : Int} {m f f' : Nat → Int} (c : Int) (h : rm p m f f') : rm p m (cz c f) (cz c f') := by
 obtain ⟨q, hq, hc⟩ := h
 refine ⟨cz c q, fin_cz c hq, fun k => ?_⟩
 rw [mz_cz]
 obtain ⟨x, hx⟩ := hc k
 unfold cz sz at *
 refine ⟨c * x, ?_⟩
 have : c * (f k - f' k - mz q m k) = c * (p * x) := by rw [hx]
 rw [Int.mul_sub, Int.mul_sub] at this
 rw [this, Int.mul_left_comm]
/-- residues modulo p and m -/
def Res (p : Int) (m : Nat → Int) : Type := Quot (fun f g : { f : Nat → Int // fin f } => rm p m f.1 g.1)
section
variable {p : Int} {m : Nat → Int}
def cl (f : Nat → Int) (hf : fin f) : Res p m := Quot.mk _ ⟨f, hf⟩
theorem cl_eq {f g : Nat → Int} {hf : fin f} {hg : fin g} : (cl f hf : Res p m) = cl g hg ↔ rm p m f g := by
 constructor
 · intro h
   have key : ∀ x y : { f : Nat → Int // fin f }, (Quot.mk (fun f g : { f : Nat → Int // fin f } => rm p m f.1 g.1) x) = Quot.mk _ y → rm p m x.1 y.1 := by
    intro x y hxy
    have h1 := congrArg (Quot.lift (fun z : { f : Nat → Int // fin f } => rm p m x.1 z.1) (by
     intro a b hab
     exact propext ⟨fun h => rm_trans h hab, fun h => rm_trans h (rm_symm hab)⟩)) hxy
    have h2 : rm p m x.1 x.1 = rm p m x.1 y.1 := h1
    rw [← h2]; exact rm_refl _ _ _
   exact key _ _ h
 · intro h; exact Quot.sound h
def rAdd (x y : Res p m) : Res p m := Quot.lift (fun f => Quot.lift (fun g => cl (az f.1 g.1) (fin_az f.2 g.2)) (by
 intro a b h; exact cl_eq.2 (rm_az (rm_refl _ _ _) h)) y) (by
 intro a b h
 induction y using Quot.ind with
 | mk g => exact cl_eq.2 (rm_az h (rm_refl _ _ _))) x
def rMul (x y : Res p m) : Res p m := Quot.lift (fun f => Quot.lift (fun g => cl (mz f.1 g.1) (fin_mz f.2 g.2)) (by
 intro a b h; exact cl_eq.2 (rm_mz2 a.2 f.2 (rm_refl _ _ _) h)) y) (by
 intro a b h
 induction y using Quot.ind with
 | mk g => exact cl_eq.2 (rm_mz g.2 h)) x
def rNeg (x : Res p m) : Res p m := Quot.lift (fun f => cl (cz (-1) f.1) (fin_cz _ f.2)) (by
 intro a b h; exact cl_eq.2 (rm_cz _ h)) x
theorem rAdd_cl {f g : Nat → Int} {hf : fin f} {hg : fin g} : rAdd (cl f hf : Res p m) (cl g hg) = cl (az f g) (fin_az hf hg) := rfl
theorem rMul_cl {f g : Nat → Int} {hf : fin f} {hg : fin g} : rMul (cl f hf : Res p m) (cl g hg) = cl (mz f g) (fin_mz hf hg) := rfl
theorem cl_congr {f g : Nat → Int} {hf : fin f} {hg : fin g} (h : f = g) : (cl f hf : Res p m) = cl g hg := by subst h; rfl
theorem res_ind {P : Res p m → Prop} (h : ∀ f hf, P (cl f hf)) (x : Res p m) : P x := by
 induction x using Quot.ind with
 | mk f => exact h f.1 f.2
instance resRg : Rg (Res p m) where
 add := rAdd
 mul := rMul
 neg := rNeg
 o := cl zS fin_zS
 e := cl oneS fin_oneS
 acomm a b := by
  induction a using res_ind with | h f hf => induction b using res_ind with | h g hg => exact cl_congr (az_comm f g)
 aassoc a b c := by
  induction a using res_ind with | h f hf => induction b using res_ind with | h g hg => induction c using res_ind with | h h hh => exact cl_congr (az_assoc f g h)
 oadd a := by induction a using res_ind with | h f hf => exact cl_congr (zS_az f)
 nadd a := by induction a using res_ind with | h f hf => exact cl_congr (neg_az f)
 mcomm a b := by
  induction a using res_ind with | h f hf => induction b using res_ind with | h g hg => exact cl_congr (mz_comm f g)
 massoc a b c := by
  induction a using res_ind with | h f hf => induction b using res_ind with | h g hg => induction c using res_ind with | h h hh => exact cl_congr (mz_assoc f g h)
 emul a := by induction a using res_ind with | h f hf => exact cl_congr (mz_one f)
 madd a b c := by
  induction a using res_ind with | h f hf => induction b using res_ind with | h g hg => induction c using res_ind with | h h hh => exact cl_congr (mz_az2 f g h)
def tt : Res p m := cl TS fin_TS
theorem pw_cl {f : Nat → Int} (hf : fin f) : ∀ n, pw (cl f hf : Res p m) n = cl (pwz f n) (fin_pwz hf n)
 | 0 => rfl
 | n + 1 => by
  show rMul (cl f hf) (pw (cl f hf) n) = _
  rw [pw_cl hf n, rMul_cl]
  exact cl_congr (mz_comm _ _)
theorem fin_c (c : Nat) : fin (fun k => if k = 0 then (c : Int) else 0) := ⟨1, fun k hk => by show (if k = 0 then (c : Int) else 0) = 0; rw [if_neg (by omega)]⟩
theorem nm_cl : ∀ c : Nat, (nm c Rg.e : Res p m) = cl (fun k => if k = 0 then (c : Int) else 0) (fin_c c)
 | 0 => cl_congr (by funext k; unfold zS; split <;> rfl)
 | c + 1 => by
  show rAdd (nm c Rg.e) (cl oneS fin_oneS) = _
  rw [nm_cl c, rAdd_cl]
  exact cl_congr (by funext k; unfold az oneS; by_cases h : k = 0 <;> simp [h])
theorem mz_TS (f : Nat → Int) : mz TS f = fun k => if k = 0 then 0 else f (k - 1) := by
 funext k
 unfold mz
 cases k with
 | zero => rw [cs_s, cs_z]; simp [TS]
 | succ k =>
  rw [cs_front, cs_front, cs_zero k (fun i hi => by unfold TS; rw [if_neg (by omega), Int.zero_mul])]
  simp [TS]
def ser (cs : List Nat) : Nat → Int := fun k => ((cs.getD k 0 : Nat) : Int)
theorem fin_ser (cs : List Nat) : fin (ser cs) := ⟨cs.length, fun k hk => by unfold ser; simp [hk]⟩
theorem pe_cl : ∀ cs : List Nat, (pe cs tt : Res p m) = cl (ser cs) (fin_ser cs)
 | [] => cl_congr (by funext k; unfold zS ser; simp)
 | c :: cs => by
  show rAdd (nm c Rg.e) (rMul (cl TS fin_TS) (pe cs tt)) = _
  rw [pe_cl cs, nm_cl, rMul_cl, rAdd_cl]
  refine cl_congr ?_
  rw [mz_TS]
  funext k
  unfold az ser
  cases k with
  | zero => simp
  | succ k => simp
/-- m is monic of the degree d -/
def monS (d : Nat) (m : Nat → Int) : Prop := m d = 1 ∧ ∀ k, d < k → m k = 0
theorem mz_mono (c : Int) (j : Nat) (m : Nat → Int) (k : Nat) : mz (fun i => if i = j then c else 0) m k = if j ≤ k then c * m (k - j) else 0 := by
 unfold mz
 by_cases h : j ≤ k
 · rw [if_pos h]
   have h1 : cs (k + 1) (fun i => (if i = j then c else 0) * m (k - i)) = cs (j + 1 + (k - j)) (fun i => (if i = j then c else 0) * m (k - i)) := by rw [show j + 1 + (k - j) = k + 1 by omega]
   have more : ∀ d, cs (j + 1 + d) (fun i => (if i = j then c else 0) * m (k - i)) = cs (j + 1) (fun i => (if i = j then c else 0) * m (k - i)) := by
    intro d
    induction d with
    | zero => rfl
    | succ d ih => rw [← Nat.add_assoc, cs_s, ih, if_neg (by omega), Int.zero_mul, Int.add_zero]
   rw [h1, more, cs_s, cs_zero j (fun i hi => by rw [if_neg (by omega), Int.zero_mul]), if_pos rfl]
   omega
 · rw [if_neg h]
   exact cs_zero _ (fun i hi => by show (if i = j then c else 0) * _ = 0; rw [if_neg (by omega), Int.zero_mul])
theorem fin_mono (c : Int) (j : Nat) : fin (fun i => if i = j then c else 0) := ⟨j + 1, fun k hk => by show (if k = j then c else 0) = 0; rw [if_neg (by omega)]⟩
/-- every one has a rest of a lesser degree -/
theorem rest_ex {d : Nat} (hp : 0 < p) (hm : monS d m) : ∀ (i : Nat) (f : Nat → Int), (∀ k, d + i ≤ k → f k = 0) → ∃ g : Nat → Int, (∀ k, 0 ≤ g k ∧ g k < p) ∧ (∀ k, d ≤ k → g k = 0) ∧ rm p m f g
 | 0, f, hf => by
  refine ⟨fun k => f k % p, fun k => ⟨Int.emod_nonneg _ (by omega), Int.emod_lt_of_pos _ hp⟩, fun k hk => ?_, rm_of_cg fun k => ?_⟩
  · show f k % p = 0
    rw [hf k (by omega)]; simp
  · exact Int.dvd_self_sub_emod
 | i + 1, f, hf => by
  obtain ⟨c, hc⟩ : ∃ c, c = f (d + i) := ⟨_, rfl⟩
  obtain ⟨g, h1, h2, h3⟩ := rest_ex hp hm i (sz f (mz (fun j => if j = i then c else 0) m)) (by
   intro k hk
   unfold sz
   rw [mz_mono, if_pos (by omega)]
   by_cases e : k = d + i
   · subst e
     rw [show d + i - i = d by omega, hm.1, ← hc]
     omega
   · rw [hf k (by omega), hm.2 (k - i) (by omega)]; simp)
  refine ⟨g, h1, h2, rm_trans ?_ h3⟩
  refine ⟨_, fin_mono c i, fun k => ⟨0, ?_⟩⟩
  unfold sz
  omega
def digs (p : Nat) : Nat → Nat → List Nat
 | 0, _ => []
 | d + 1, N => N % p :: digs p d (N / p)
theorem digs_out (p : Nat) : ∀ d N k, d ≤ k → (digs p d N).getD k 0 = 0
 | 0, _, k, _ => by show ([] : List Nat).getD k 0 = 0; simp
 | d + 1, N, 0, h => by omega
 | d + 1, N, k + 1, h => digs_out p d (N / p) k (by omega)
theorem digs_lt {p : Nat} (hp : 0 < p) : ∀ d N k, (digs p d N).getD k 0 < p
 | 0, _, k => by show ([] : List Nat).getD k 0 < p; simpa using hp
 | d + 1, N, 0 => Nat.mod_lt _ hp
 | d + 1, N, k + 1 => digs_lt hp d (N / p) k
theorem digs_inj {p : Nat} (hp : 0 < p) : ∀ d N M, N < p ^ d → M < p ^ d → (∀ k, (digs p d N).getD k 0 = (digs p d M).getD k 0) → N = M
 | 0, N, M, h1, h2, _ => by rw [Nat.pow_zero] at h1 h2; omega
 | d + 1, N, M, h1, h2, h => by
  have h0 : N % p = M % p := h 0
  have hr := digs_inj hp d (N / p) (M / p) (by rw [Nat.div_lt_iff_lt_mul hp]; rwa [Nat.pow_succ] at h1) (by rw [Nat.div_lt_iff_lt_mul hp]; rwa [Nat.pow_succ] at h2) (fun k => h (k + 1))
  rw [← Nat.div_add_mod N p, ← Nat.div_add_mod M p, h0, hr]
theorem digs_sur {p : Nat} : ∀ d (g : Nat → Nat), (∀ k, g k < p) → ∃ N, N < p ^ d ∧ ∀ k, k < d → (digs p d N).getD k 0 = g k
 | 0, _, _ => ⟨0, by simp, fun k hk => by omega⟩
 | d + 1, g, hg => by
  obtain ⟨N, h1, h2⟩ := digs_sur d (fun k => g (k + 1)) (fun k => hg (k + 1))
  have hp : 0 < p := by have := hg 0; omega
  have e1 : (p * N + g 0) % p = g 0 := by rw [Nat.mul_add_mod, Nat.mod_eq_of_lt (hg 0)]
  have e2 : (p * N + g 0) / p = N := by rw [Nat.mul_add_div hp, Nat.div_eq_of_lt (hg 0)]; omega
  refine ⟨p * N + g 0, ?_, fun k hk => ?_⟩
  · rw [Nat.pow_succ, Nat.mul_comm (p ^ d)]
    have : p * (N + 1) ≤ p * p ^ d := Nat.mul_le_mul_left p h1
    have h3 := hg 0
    rw [Nat.mul_add] at this
    omega
  · show ((p * N + g 0) % p :: digs p d ((p * N + g 0) / p)).getD k 0 = g k
    rw [e1, e2]
    cases k with
    | zero => rfl
    | succ k => exact h2 k (by omega)
end
/-- no product is divided without one of the factors -/
def euclS (p : Int) (m : Nat → Int) : Prop := ∀ a b : Nat → Int, fin a → fin b → rm p m (mz a b) zS → rm p m a zS ∨ rm p m b zS
theorem dvd_small {p x : Int} (h : p ∣ x) (h1 : -p < x) (h2 : x < p) : x = 0 := by
 obtain ⟨c, rfl⟩ := h
 by_cases h4 : c = 0
 · rw [h4, Int.mul_zero]
 · exfalso
   have hp : 0 < p := by omega
   by_cases h5 : 0 < c
   · have : p * 1 ≤ p * c := Int.mul_le_mul_of_nonneg_left (by omega) (by omega)
     omega
   · have : p * c ≤ p * (-1) := Int.mul_le_mul_of_nonneg_left (by omega) (by omega)
     omega
/-- T to the power p^d is T modulo m, and no lesser one -/
theorem field_T {p d : Nat} {m : Nat → Int} (hp : p = 2 ∨ p = 3 ∨ p = 5 ∨ p = 7) (hm : monS d m) (hml : ∀ k, 0 ≤ m k) (hd : 1 ≤ d) (hE : euclS p m) :
 rm p m (pwz TS (p ^ d)) TS ∧ ∀ n, 1 ≤ n → rm p m (pwz TS (p ^ n)) TS → d ≤ n := by
 have hp0 : 0 < p := by omega
 have low : ∀ f g : Nat → Int, (∀ k, 0 ≤ f k ∧ f k < p) → (∀ k, 0 ≤ g k ∧ g k < p) → (∀ k, d ≤ k → f k = 0) → (∀ k, d ≤ k → g k = 0) → rm p m f g → ∀ k, f k = g k := by
  intro f g hf hg hf0 hg0 h k
  have := rm_unique (d := d) (v := 1) (by rw [hm.1]; exact ⟨0, by omega⟩) hm.2 (fun k hk => by rw [hf0 k hk, hg0 k hk]; exact ⟨0, by omega⟩) h k
  have h1 := hf k
  have h2 := hg k
  have := dvd_small this (by omega) (by omega)
  omega
 have main := field_main (R := Res p m) (p := p) (d := d) (by
  intro a b hab
  induction a using res_ind with | h f hf =>
  induction b using res_ind with | h g hg =>
  have h1 := cl_eq.1 (hab : (cl (mz f g) (fin_mz hf hg) : Res p m) = cl zS fin_zS)
  rcases hE f g hf hg h1 with h | h
  · exact .inl (cl_eq.2 h)
  · exact .inr (cl_eq.2 h)) hp (by
  rw [nm_cl]
  exact cl_eq.2 (rm_of_cg fun k => by
   unfold zS
   split
   · exact ⟨1, by omega⟩
   · exact ⟨0, by omega⟩)) (by
  intro h
  have h1 := cl_eq.1 (h : (cl oneS fin_oneS : Res p m) = cl zS fin_zS)
  have := low oneS zS (fun k => by unfold oneS; split <;> omega) (fun k => by unfold zS; omega) (fun k hk => by unfold oneS; rw [if_neg (by omega)]) (fun k _ => rfl) h1 0
  simp [oneS, zS] at this) tt
  ((List.range (p ^ d)).map fun N => pe (digs p d N) tt) (by
   rw [List.nodup_iff_pairwise_ne, List.pairwise_map]
   refine List.Pairwise.imp_of_mem ?_ List.pairwise_lt_range
   intro i j hi hj hij heq
   rw [pe_cl, pe_cl] at heq
   have := low _ _ (fun k => by unfold ser; have := digs_lt hp0 d i k; omega) (fun k => by unfold ser; have := digs_lt hp0 d j k; omega) (fun k hk => by unfold ser; rw [digs_out _ _ _ _ hk]; rfl) (fun k hk => by unfold ser; rw [digs_out _ _ _ _ hk]; rfl) (cl_eq.1 heq)
   have := digs_inj hp0 d i j (by simpa using hi) (by simpa using hj) (fun k => by have := this k; unfold ser at this; omega)
   omega) (by simp) (by
   intro x
   induction x using res_ind with | h f hf =>
   obtain ⟨N, hN⟩ := hf
   obtain ⟨g, h1, h2, h3⟩ := rest_ex (p := p) (by omega) hm N f (fun k hk => hN k (by omega))
   obtain ⟨M, h4, h5⟩ := digs_sur (p := p) d (fun k => (g k).toNat) (fun k => by have := h1 k; omega)
   refine List.mem_map.2 ⟨M, by simpa using h4, ?_⟩
   rw [pe_cl]
   refine cl_eq.2 (rm_symm (rm_trans h3 (rm_of_cg fun k => ⟨0, ?_⟩)))
   unfold ser
   by_cases hk : k < d
   · rw [h5 k hk]; have := h1 k; omega
   · rw [digs_out _ _ _ _ (by omega), h2 k (by omega)]; omega) (by
   intro x
   induction x using res_ind with | h f hf =>
   obtain ⟨N, hN⟩ := hf
   obtain ⟨g, h1, h2, h3⟩ := rest_ex (p := p) (by omega) hm N f (fun k hk => hN k (by omega))
   obtain ⟨M, h4, h5⟩ := digs_sur (p := p) d (fun k => (g k).toNat) (fun k => by have := h1 k; omega)
   refine ⟨digs p d M, ?_⟩
   rw [pe_cl]
   refine cl_eq.2 (rm_trans h3 (rm_of_cg fun k => ⟨0, ?_⟩))
   unfold ser
   by_cases hk : k < d
   · rw [h5 k hk]; have := h1 k; omega
   · rw [digs_out _ _ _ _ (by omega), h2 k (by omega)]; omega)
  ((List.range d).map fun k => (m k).toNat) (by simp) (by
   rw [pe_cl]
   refine cl_eq.2 ?_
   have e : ser ((List.range d).map (fun k => (m k).toNat) ++ [1]) = mz oneS m := by
    have h1 : mz oneS m = m := mz_one m
    rw [h1]
    funext k
    unfold ser
    by_cases h : k < d
    · have := hml k
      rw [List.getD_eq_getElem?_getD, List.getElem?_append_left (by simpa using h)]
      simp [h]
      omega
    · rw [List.getD_eq_getElem?_getD, List.getElem?_append_right (by simpa using h)]
      by_cases h2 : k = d
      · subst h2; simp [hm.1]
      · rw [hm.2 k (by omega)]
        have : ([1] : List Nat)[k - ((List.range d).map fun k => (m k).toNat).length]? = none := by simp; omega
        rw [this]; rfl
   rw [e]
   exact rm_zero fin_oneS)
 obtain ⟨a1, a2⟩ := main
 have conv : ∀ n, fr' p n (tt : Res p m) = tt ↔ rm p m (pwz TS (p ^ n)) TS := by
  intro n
  unfold fr'
  have : pw (tt : Res p m) (p ^ n) = cl (pwz TS (p ^ n)) (fin_pwz fin_TS _) := pw_cl fin_TS _
  rw [this]
  exact cl_eq
 exact ⟨(conv d).1 a1, fun n hn h => a2 n hn ((conv n).2 h)⟩
end Go.Proofs.Ytelgefgphhebnaa
set_option linter.unusedVariables false
namespace Go.Proofs.Ytelgefgphhebnaa
attribute [local irreducible] deg invN
/-- cells up to 127 as a series -/
def lw (f : Nat → Nat) : Nat → Int := fun k => if k < 128 then (f k : Int) else 0
theorem lw_cut (f : Nat → Nat) : lw (cut f) = lz f := by
 funext k; unfold lw lz
 by_cases h : k < 128
 · rw [if_pos h]
 · rw [if_neg h, zcz f (by omega)]; rfl
/-- a polynomial's cells, all of them -/
def ln (f : Nat → Nat) : Nat → Int := fun k => (f k : Int)
theorem lz_above {b : Nat → Nat} {m : Nat} (hb : deg b = (m : Int)) {k : Nat} (hk : m < k) : lz b k = 0 := by
 unfold lz
 by_cases h : k < 64
 · rw [cut_in b h, zero_above (f := b) (k := k) (by omega) h]; rfl
 · rw [zcz b (by omega)]; rfl
theorem take_dvd {p A c b : Nat} (hc : c ≤ p) : (p : Int) ∣ (A : Int) - ((c : Int) * (b : Int) + (((A + (p - c) * b) % p : Nat) : Int)) := by
 have h1 := mod_dvd p (A + (p - c) * b)
 have h2 : ((A + (p - c) * b : Nat) : Int) = (A : Int) + (p : Int) * (b : Int) - (c : Int) * (b : Int) := by
  have : ((p - c : Nat) : Int) = (p : Int) - (c : Int) := by omega
  rw [Int.natCast_add, Int.natCast_mul, this, Int.sub_mul]; omega
 rw [h2] at h1
 obtain ⟨x, hx⟩ := h1
 refine ⟨-x - (b : Int), ?_⟩
 rw [Int.mul_sub, Int.mul_neg]
 omega
theorem stp_cg {p inv m n : Nat} {b a : Nat → Nat} (hp : 0 < p) (hb : deg b = (m : Int)) (hmn : m ≤ n) (hn : n < 128) :
 cg p (lw a) (az (mz (fun i => if i = n - m then ((a n * inv % p : Nat) : Int) else 0) (lz b)) (lw (stp p inv m b n a))) := by
 obtain ⟨hm6, _, _⟩ := deg_top hb
 intro k
 obtain ⟨c, hc⟩ : ∃ c, c = a n * inv % p := ⟨_, rfl⟩
 have hcp : c < p := by rw [hc]; exact Nat.mod_lt _ hp
 unfold az
 rw [mz_mono, ← hc]
 unfold lw stp
 by_cases hk : k < 128
 · rw [if_pos hk, if_pos hk]
   by_cases h : n - m ≤ k ∧ k ≤ n
   · rw [if_pos h, if_pos h.1, ← hc]
     have : lz b (k - (n - m)) = (b (k - (n - m)) : Int) := by unfold lz; rw [cut_in b (by omega)]
     rw [this]
     exact take_dvd (by omega)
   · rw [if_neg h]
     by_cases h1 : n - m ≤ k
     · rw [if_pos h1, lz_above hb (by omega)]; exact ⟨0, by omega⟩
     · rw [if_neg h1]; exact ⟨0, by omega⟩
 · rw [if_neg hk, if_neg hk, if_pos (by omega), lz_above hb (by omega)]; exact ⟨0, by omega⟩
theorem qS_fin (p inv m : Nat) (b a : Nat → Nat) (i : Nat) : fin (ln (qS p inv m b a i)) := ⟨128, fun k hk => by unfold ln qS; rw [if_neg (by omega)]; rfl⟩
theorem qS_az {p inv m : Nat} (b a : Nat → Nat) {i : Nat} (hi : i + m ≤ 127) : ln (qS p inv m b a (i + 1)) = az (ln (qS p inv m b a i)) (fun j => if j = 127 - i - m then ((dS p inv m b a i (127 - i) * inv % p : Nat) : Int) else 0) := by
 funext k
 show ((qS p inv m b a (i + 1) k : Nat) : Int) = ((qS p inv m b a i k : Nat) : Int) + (if k = 127 - i - m then ((dS p inv m b a i (127 - i) * inv % p : Nat) : Int) else 0)
 rw [← qS_next b a hi k]
 unfold upd
 by_cases h : k = 127 - i - m
 · rw [if_pos h, if_pos h]
   have : qS p inv m b a i k = 0 := by unfold qS; rw [if_neg (by omega)]
   rw [this]; simp
 · rw [if_neg h, if_neg h]; simp
theorem dS_cg {p inv m : Nat} {b a : Nat → Nat} (hp : 0 < p) (hb : deg b = (m : Int)) : ∀ i, i + m ≤ 128 → cg p (lw a) (az (mz (ln (qS p inv m b a i)) (lz b)) (lw (dS p inv m b a i)))
 | 0, _ => by
  intro k
  unfold az
  have : mz (ln (qS p inv m b a 0)) (lz b) k = 0 := cs_zero _ (fun j _ => by unfold ln; rw [qS_zero]; simp)
  rw [this, dS_zero]; exact ⟨0, by omega⟩
 | i + 1, hi => by
  have ih := dS_cg (inv := inv) (b := b) (a := a) hp hb i (by omega)
  have hs := stp_cg (inv := inv) (a := dS p inv m b a i) hp hb (n := 127 - i) (by omega) (by omega)
  rw [qS_az b a (by omega), mz_az, dS_succ]
  intro k
  have h1 := ih k
  have h2 := hs k
  unfold az at *
  have := Int.dvd_add h1 h2
  rw [show lw a k - (mz (ln (qS p inv m b a i)) (lz b) k + lw (dS p inv m b a i) k) + (lw (dS p inv m b a i) k - (mz (fun j => if j = 127 - i - m then ((dS p inv m b a i (127 - i) * inv % p : Nat) : Int) else 0) (lz b) k + lw (stp p inv m b (127 - i) (dS p inv m b a i)) k)) = lw a k - (mz (ln (qS p inv m b a i)) (lz b) k + mz (fun j => if j = 127 - i - m then ((dS p inv m b a i (127 - i) * inv % p : Nat) : Int) else 0) (lz b) k + lw (stp p inv m b (127 - i) (dS p inv m b a i)) k) by omega] at this
  exact this
/-- long division leads back -/
theorem divW {p inv m : Nat} {b a : Nat → Nat} (hp : 0 < p) (hb : deg b = (m : Int)) : cg p (lw a) (az (mz (ln (quoW p inv m b a)) (lz b)) (lw (resW p inv m b a))) := by
 obtain ⟨hm6, _, _⟩ := deg_top hb
 exact dS_cg hp hb (128 - m) (by omega)
theorem rmW {p inv m : Nat} {b a : Nat → Nat} (hp : 0 < p) (hb : deg b = (m : Int)) : rm p (lz b) (lw a) (lw (resW p inv m b a)) := by
 refine ⟨_, qS_fin p inv m b a (128 - m), fun k => ?_⟩
 have := divW (inv := inv) (a := a) hp hb k
 unfold az at this
 unfold sz
 show (p : Int) ∣ lw a k - lw (resW p inv m b a) k - mz (ln (quoW p inv m b a)) (lz b) k
 rwa [show lw a k - lw (resW p inv m b a) k - mz (ln (quoW p inv m b a)) (lz b) k = lw a k - (mz (ln (quoW p inv m b a)) (lz b) k + lw (resW p inv m b a) k) by omega]
theorem quoP_out {p : Nat} {a b : Nat → Nat} (hp : 0 < p) (ha : ∀ k, k < 64 → a k < p) (hb : 0 ≤ deg b) {k : Nat} (hk : 64 ≤ k) : quoP p a b k = 0 := by
 obtain ⟨m, hm⟩ : ∃ m : Nat, deg b = (m : Int) := ⟨(deg b).toNat, by omega⟩
 rw [quoP_at hm]
 unfold quoW qS
 split
 · rename_i h
   unfold qd
   rw [dS_stay (N := 64) (fun j _ => cut_all hp ha j) (fun j h1 _ => zcz a h1) _ (by omega) _ (by omega), zcz a (by omega), Nat.zero_mul, Nat.zero_mod]
 · rfl
theorem resP_out {p : Nat} {a b : Nat → Nat} (hp : p = 2 ∨ p = 3 ∨ p = 5 ∨ p = 7) (ha : ∀ k, k < 64 → a k < p) (hbp : ∀ k, k < 64 → b k < p) (hb : 0 ≤ deg b) {k : Nat} (hk : 64 ≤ k) (hk2 : k < 128) : resP p a b k = 0 := by
 have hp0 : 0 < p := by omega
 obtain ⟨m, hm⟩ : ∃ m : Nat, deg b = (m : Int) := ⟨(deg b).toNat, by omega⟩
 obtain ⟨m1, m2, m3⟩ := deg_top hm
 rw [resP_at hm]
 unfold resW
 exact dS_top hp0 (fun j _ => cut_all hp0 ha j) (invF hp m2 (hbp m m1)).2.2.1 _ (by omega) k (by omega) hk2
/-- a is the quotient times b, and the rest -/
theorem divP {p : Nat} {a b : Nat → Nat} (hp : p = 2 ∨ p = 3 ∨ p = 5 ∨ p = 7) (ha : ∀ k, k < 64 → a k < p) (hbp : ∀ k, k < 64 → b k < p) (hb : 0 ≤ deg b) : cg p (lz a) (az (mz (lz (quoP p a b)) (lz b)) (lz (resP p a b))) := by
 have hp0 : 0 < p := by omega
 obtain ⟨m, hm⟩ : ∃ m : Nat, deg b = (m : Int) := ⟨(deg b).toNat, by omega⟩
 have h := divW (inv := invN p (b m)) (a := cut a) hp0 hm
 rw [lw_cut, ← quoP_at hm, ← resP_at hm] at h
 have e1 : ln (quoP p a b) = lz (quoP p a b) := by
  funext k; unfold ln lz
  by_cases hk : k < 64
  · rw [cut_in _ hk]
  · rw [zcz _ (by omega), quoP_out hp0 ha hb (by omega)]
 have e2 : lw (resP p a b) = lz (resP p a b) := by
  funext k; unfold lw lz
  by_cases hk : k < 64
  · rw [cut_in _ hk, if_pos (by omega)]
  · rw [zcz _ (by omega)]
    by_cases hk2 : k < 128
    · rw [if_pos hk2, resP_out hp ha hbp hb (by omega) hk2]
    · rw [if_neg hk2]; rfl
 rw [e1, e2] at h
 exact h
/-- m divides f -/
def dv (p : Nat) (m f : Nat → Int) : Prop := rm p m f zS
theorem dv_congr {p : Nat} {m f g : Nat → Int} (h : cg p f g) : dv p m f ↔ dv p m g :=
 ⟨fun h1 => rm_trans (rm_symm (rm_of_cg h)) h1, fun h1 => rm_trans (rm_of_cg h) h1⟩
theorem az_zS (f : Nat → Int) : az f zS = f := by rw [az_comm]; exact zS_az f
theorem dv_add {p : Nat} {m f g : Nat → Int} (h1 : dv p m f) (h2 : dv p m g) : dv p m (az f g) := by
 have := rm_az h1 h2
 rwa [zS_az] at this
theorem mz_zS (f : Nat → Int) : mz f zS = zS := by
 funext k; exact cs_zero _ (fun i _ => Int.mul_zero _)
theorem zS_mz (f : Nat → Int) : mz zS f = zS := by rw [mz_comm]; exact mz_zS f
theorem cz_zS (c : Int) : cz c zS = zS := by funext k; exact Int.mul_zero _
theorem dv_mul {p : Nat} {m f g : Nat → Int} (hg : fin g) (h : dv p m f) : dv p m (mz g f) := by
 have := rm_mz hg h
 rw [zS_mz] at this
 unfold dv; rwa [mz_comm]
theorem dv_cz {p : Nat} {m f : Nat → Int} (c : Int) (h : dv p m f) : dv p m (cz c f) := by
 have := rm_cz c h
 rwa [cz_zS] at this
theorem dv_sub {p : Nat} {m f g : Nat → Int} (h1 : dv p m (az f g)) (h2 : dv p m g) : dv p m f := by
 have := dv_add h1 (dv_cz (-1) h2)
 have e : az (az f g) (cz (-1) g) = f := by funext k; unfold az cz; omega
 rwa [e] at this
theorem dv_self {p : Nat} (m : Nat → Int) : dv p m m := by
 have := rm_zero (p := p) (m := m) fin_oneS
 have e : mz oneS m = m := mz_one m
 rw [e] at this; exact this
theorem dv_zS {p : Nat} (m : Nat → Int) : dv p m zS := rm_refl _ _ _
theorem dv_trans {p : Nat} {a b c : Nat → Int} (h1 : dv p a b) (h2 : dv p b c) : dv p a c := by
 obtain ⟨q, hq, hc⟩ := h2
 have h3 : cg p c (mz q b) := fun k => by have := hc k; unfold sz zS at this; rwa [Int.sub_zero] at this
 exact (dv_congr h3).2 (dv_mul hq h1)
theorem dv_ex {p : Nat} {m f : Nat → Int} : dv p m f ↔ ∃ q, fin q ∧ cg p f (mz q m) := by
 constructor
 · rintro ⟨q, hq, hc⟩
   exact ⟨q, hq, fun k => by have := hc k; unfold sz zS at this; rwa [Int.sub_zero] at this⟩
 · rintro ⟨q, hq, hc⟩
   exact ⟨q, hq, fun k => by unfold sz zS; rw [Int.sub_zero]; exact hc k⟩
theorem dv_ab {p : Nat} {a b : Nat → Nat} {c : Nat → Int} (hp : p = 2 ∨ p = 3 ∨ p = 5 ∨ p = 7) (ha : ∀ k, k < 64 → a k < p) (hbp : ∀ k, k < 64 → b k < p) (hb : 0 ≤ deg b) :
 (dv p c (lz a) ∧ dv p c (lz b)) ↔ (dv p c (lz b) ∧ dv p c (lz (resP p a b))) := by
 have h := divP hp ha hbp hb
 constructor
 · rintro ⟨h1, h2⟩
   have h3 := (dv_congr h).1 h1
   rw [az_comm] at h3
   exact ⟨h2, dv_sub h3 (dv_mul (fin_lz _) h2)⟩
 · rintro ⟨h1, h2⟩
   exact ⟨(dv_congr h).2 (dv_add (dv_mul (fin_lz _) h1) h2), h1⟩
/-- a rest 0 is a divisor -/
theorem res_zero_iff {p : Nat} {a b : Nat → Nat} (hp : p = 2 ∨ p = 3 ∨ p = 5 ∨ p = 7) (ha : ∀ k, k < 64 → a k < p) (hbp : ∀ k, k < 64 → b k < p) (hb : 0 ≤ deg b) : deg (resP p a b) < 0 ↔ dv p (lz b) (lz a) := by
 have hp0 : 0 < p := by omega
 have h := divP hp ha hbp hb
 have zer : ∀ f : Nat → Nat, deg f < 0 → lz f = zS := by
  intro f hf
  funext k; unfold lz zS
  by_cases hk : k < 64
  · rw [cut_in f hk, deg_neg hf k hk]; rfl
  · rw [zcz f (by omega)]; rfl
 constructor
 · intro h0
   rw [zer _ h0, az_zS] at h
   exact (dv_congr h).2 (dv_mul (fin_lz _) (dv_self _))
 · intro h0
   have h1 := (dv_congr h).1 h0
   rw [az_comm] at h1
   have h2 := dv_sub h1 (dv_mul (fin_lz (quoP p a b)) (dv_self (p := p) (lz b)))
   obtain ⟨m, hm⟩ : ∃ m : Nat, deg b = (m : Int) := ⟨(deg b).toNat, by omega⟩
   obtain ⟨m1, m2, m3⟩ := deg_top hm
   obtain ⟨r1, r2⟩ := resP_deg hp ha hbp hb
   obtain ⟨_, _, i3, _⟩ := invF hp m2 (hbp m m1)
   have hu := rm_unique (d := m) (v := (invN p (b m) : Int)) (m := lz b) (f := lz (resP p a b)) (g := zS) (p := p) (by
    unfold lz; rw [cut_in b m1]
    have := mod_dvd p (invN p (b m) * b m)
    rw [i3] at this
    obtain ⟨x, hx⟩ := this
    rw [Int.natCast_mul, Int.mul_comm] at hx
    exact ⟨-x, by rw [Int.mul_neg]; omega⟩) (fun k hk => lz_above hm hk) (fun k hk => by
    have : lz (resP p a b) k = 0 := by
     unfold lz
     by_cases hk2 : k < 64
     · rw [cut_in _ hk2, zero_above (f := resP p a b) (k := k) (by omega) hk2]; rfl
     · rw [zcz _ (by omega)]; rfl
    rw [this]; exact ⟨0, by unfold zS; omega⟩) h2
   have hz : ∀ k, k < 64 → resP p a b k = 0 := by
    intro k hk
    have h3 := hu k
    unfold lz zS at h3
    rw [cut_in _ hk] at h3
    have h4 := resP_lt hp0 ha (b := b) k hk
    have := dvd_small h3 (by omega) (by omega)
    omega
   exact deg_neg_iff.2 hz
end Go.Proofs.Ytelgefgphhebnaa
set_option linter.unusedVariables false
namespace Go.Proofs.Ytelgefgphhebnaa
attribute [local irreducible] deg invN quoP resP
theorem lz_neg {f : Nat → Nat} (hf : deg f < 0) : lz f = zS := by
 funext k; unfold lz zS
 by_cases hk : k < 64
 · rw [cut_in f hk, deg_neg hf k hk]; rfl
 · rw [zcz f (by omega)]; rfl
theorem subP_cg {p : Nat} {f g : Nat → Nat} (hg : ∀ k, k < 64 → g k < p) : cg p (lz (subP p f g)) (az (lz f) (cz (-1) (lz g))) := by
 intro k
 show (p : Int) ∣ ((cut (subP p f g) k : Nat) : Int) - (((cut f k : Nat) : Int) + (-1) * ((cut g k : Nat) : Int))
 by_cases hk : k < 64
 · rw [cut_in _ hk, cut_in _ hk, cut_in _ hk]
   unfold subP
   have h1 := mod_dvd p (f k + p - g k)
   have := hg k hk
   have h2 : ((f k + p - g k : Nat) : Int) = (f k : Int) + (p : Int) - (g k : Int) := by omega
   rw [h2] at h1
   obtain ⟨x, hx⟩ := h1
   exact ⟨x + 1, by rw [Int.mul_add]; omega⟩
 · rw [zcz _ (by omega), zcz _ (by omega), zcz _ (by omega)]; exact ⟨0, by simp⟩
theorem sclP_cg {p : Nat} (f : Nat → Nat) (c : Nat) : cg p (lz (sclP p f c)) (cz (c : Int) (lz f)) := by
 intro k
 show (p : Int) ∣ ((cut (sclP p f c) k : Nat) : Int) - (c : Int) * ((cut f k : Nat) : Int)
 by_cases hk : k < 64
 · rw [cut_in _ hk, cut_in _ hk]
   unfold sclP
   have h1 := mod_dvd p (f k * c)
   rwa [Int.natCast_mul, Int.mul_comm (f k : Int)] at h1
 · rw [zcz _ (by omega), zcz _ (by omega)]; exact ⟨0, by simp⟩
theorem cg_cz {p : Int} {f g : Nat → Int} (c : Int) (h : cg p f g) : cg p (cz c f) (cz c g) := fun k => by
 unfold cz; rw [← Int.mul_sub]; exact Int.dvd_mul_of_dvd_right (h k)
theorem cg_eq {p : Int} {f g : Nat → Int} (h : f = g) : cg p f g := by subst h; exact cg_refl p f
/-- one column of the search -/
theorem lin_next {p : Nat} {a b q r u x v y u2 v2 : Nat → Int} {A B : Nat → Int} (hq : fin q) (hx : fin x) (hy : fin y) (hA : fin A) (hB : fin B)
 (h1 : cg p a (az (mz u A) (mz v B))) (h2 : cg p b (az (mz x A) (mz y B))) (h3 : cg p a (az (mz q b) r)) (h4 : cg p u2 (az u (cz (-1) (mz q x)))) (h5 : cg p v2 (az v (cz (-1) (mz q y)))) :
 cg p r (az (mz u2 A) (mz v2 B)) := by
 have e1 : cg p (mz u2 A) (az (mz u A) (cz (-1) (mz q (mz x A)))) := by
  refine cg_trans (cg_mz h4) (cg_eq ?_)
  rw [mz_az, mz_cz, mz_assoc]
 have e2 : cg p (mz v2 B) (az (mz v B) (cz (-1) (mz q (mz y B)))) := by
  refine cg_trans (cg_mz h5) (cg_eq ?_)
  rw [mz_az, mz_cz, mz_assoc]
 have e3 : cg p (mz q b) (az (mz q (mz x A)) (mz q (mz y B))) := by
  refine cg_trans (cg_mz2 (cg_refl _ q) h2) (cg_eq ?_)
  rw [mz_az2]
 intro k
 have d1 := e1 k; have d2 := e2 k; have d3 := e3 k; have d4 := h1 k; have d5 := h3 k
 unfold az cz at *
 obtain ⟨x1, h1⟩ := d1; obtain ⟨x2, h2⟩ := d2; obtain ⟨x3, h3⟩ := d3; obtain ⟨x4, h4⟩ := d4; obtain ⟨x5, h5⟩ := d5
 refine ⟨x4 - x5 - x3 - x1 - x2, ?_⟩
 rw [Int.mul_sub, Int.mul_sub, Int.mul_sub, Int.mul_sub]
 omega
theorem bz_main {p : Nat} {A B : Nat → Int} (hp : p = 2 ∨ p = 3 ∨ p = 5 ∨ p = 7) (hA : fin A) (hB : fin B) : ∀ (n : Nat) (a b u x v y : Nat → Nat), bzI p a b u x v y → deg b + 1 ≤ (n : Int) →
 cg p (lz a) (az (mz (lz u) A) (mz (lz v) B)) → cg p (lz b) (az (mz (lz x) A) (mz (lz y) B)) →
 (∀ k, k < 64 → (bzRun p n a b u x v y).1 k < p) ∧ 0 ≤ deg (bzRun p n a b u x v y).1 ∧
 cg p (lz (bzRun p n a b u x v y).1) (az (mz (lz (bzRun p n a b u x v y).2.1) A) (mz (lz (bzRun p n a b u x v y).2.2) B)) ∧
 (∀ c, dv p c (lz (bzRun p n a b u x v y).1) ↔ (dv p c (lz a) ∧ dv p c (lz b))) ∧
 (∀ k, k < 64 → (bzRun p n a b u x v y).2.1 k < p) ∧ (∀ k, k < 64 → (bzRun p n a b u x v y).2.2 k < p)
 | n, a, b, u, x, v, y, hI, hn, h1, h2 => by
  have hp0 : 0 < p := by omega
  by_cases hz : deg b < 0
  · rw [bzRun_stop hz]
    obtain ⟨i1, i2, i3, _, i5, _, _, _, _, _, i11⟩ := hI
    refine ⟨i1, (by show 0 ≤ deg a; omega), h1, fun c => ?_, i3, i5⟩
    rw [lz_neg hz]
    exact ⟨fun h => ⟨h, dv_zS c⟩, fun h => h.1⟩
  · cases n with
    | zero => omega
    | succ n =>
     obtain ⟨hI', hdr, hdx, hdy⟩ := bzI_next hp hI hz
     rw [bzRun_go hz]
     obtain ⟨i1, i2, i3, i4, i5, i6, _⟩ := hI
     have hb0 : 0 ≤ deg b := by omega
     have step := lin_next (p := p) (fin_lz _) (fin_lz x) (fin_lz y) hA hB h1 h2 (divP hp i1 i2 hb0)
      (cg_trans (subP_cg (fun k _ => prd_lt hp0 k)) (cg_az (cg_refl _ _) (cg_cz _ (prd_cg hp0 hdx))))
      (cg_trans (subP_cg (fun k _ => prd_lt hp0 k)) (cg_az (cg_refl _ _) (cg_cz _ (prd_cg hp0 hdy))))
     obtain ⟨r1, r2, r3, r4, r5, r6⟩ := bz_main hp hA hB n b (resP p a b) x (subP p u (prd p (quoP p a b) x)) y (subP p v (prd p (quoP p a b) y)) hI' (by push_cast at hn; omega) h2 step
     exact ⟨r1, r2, r3, fun c => (r4 c).trans (dv_ab hp i1 i2 hb0).symm, r5, r6⟩
theorem dv_unit {p : Nat} {m f : Nat → Int} {c v : Int} (hv : (p : Int) ∣ c * v - 1) : dv p m (cz c f) ↔ dv p m f := by
 refine ⟨fun h => ?_, dv_cz c⟩
 have h2 := dv_cz v h
 refine (dv_congr (fun k => ?_)).1 h2
 unfold cz
 obtain ⟨x, hx⟩ := hv
 refine ⟨f k * x, ?_⟩
 have : v * (c * f k) - f k = (c * v - 1) * f k := by rw [Int.sub_mul, Int.one_mul, ← Int.mul_assoc, Int.mul_comm v c]
 rw [this, hx, Int.mul_assoc, Int.mul_comm x]
/-- monic -/
def mon (f : Nat → Nat) (d : Nat) : Prop := deg f = (d : Int) ∧ f d = 1
theorem mon_S {f : Nat → Nat} {d : Nat} (h : mon f d) : monS d (lz f) := by
 obtain ⟨h1, _, _⟩ := deg_top h.1
 refine ⟨?_, fun k hk => lz_above h.1 hk⟩
 unfold lz; rw [cut_in f h1, h.2]; rfl
theorem lz_nn (f : Nat → Nat) (k : Nat) : 0 ≤ lz f k := by unfold lz; omega
/-- the greatest common divisor: a sum of multiples, monic, and divided by all common divisors alone -/
theorem bz_all {p : Nat} {a b : Nat → Nat} (hp : p = 2 ∨ p = 3 ∨ p = 5 ∨ p = 7) (ha : ∀ k, k < 64 → a k < p) (hb : ∀ k, k < 64 → b k < p) (h : 0 ≤ deg a ∨ 0 ≤ deg b) :
 (∀ k, bzD p a b k < p) ∧ (∃ d, mon (bzD p a b) d) ∧ cg p (lz (bzD p a b)) (az (mz (lz (bzU p a b)) (lz a)) (mz (lz (bzW p a b)) (lz b))) ∧ (∀ c, dv p c (lz (bzD p a b)) ↔ (dv p c (lz a) ∧ dv p c (lz b))) := by
 have hp0 : 0 < p := by omega
 have one : lz oneP = oneS := by
  funext k; unfold lz oneS
  by_cases hk : k < 64
  · rw [cut_in _ hk]; unfold oneP; split <;> rfl
  · rw [zcz _ (by omega), if_neg (by omega)]; rfl
 have zer : lz (fun _ => 0) = zS := lz_neg (deg_neg_iff.2 (fun _ _ => rfl))
 have e1 : ∀ f, mz oneS f = f := mz_one
 obtain ⟨r1, r2, r3, r4, r5, r6⟩ := bz_main hp (fin_lz a) (fin_lz b) 65 a b oneP (fun _ => 0) (fun _ => 0) oneP (bzI_start (by omega) ha hb h) (by have := zdb b; omega)
  (by rw [one, zer, e1, zS_mz, az_zS]; exact cg_refl _ _) (by rw [one, zer, e1, zS_mz, zS_az]; exact cg_refl _ _)
 have hV : bzV p a b = bzRun p 65 a b oneP (fun _ => 0) (fun _ => 0) oneP := rfl
 rw [← hV] at r1 r2 r3 r4
 obtain ⟨d, hd⟩ : ∃ d : Nat, deg (bzV p a b).1 = (d : Int) := ⟨(deg (bzV p a b).1).toNat, by omega⟩
 obtain ⟨d1, d2, d3⟩ := deg_top hd
 obtain ⟨i1, i2, i3, _⟩ := invF hp d2 (r1 d d1)
 have hc : bzC p a b = invN p ((bzV p a b).1 d) := by unfold bzC; rw [hd]; rfl
 obtain ⟨c, hcc⟩ : ∃ c, c = invN p ((bzV p a b).1 d) := ⟨_, rfl⟩
 rw [← hcc] at hc i1 i2 i3
 have hD : bzD p a b = sclP p (bzV p a b).1 c := by unfold bzD; rw [hc]
 have hU : bzU p a b = sclP p (bzV p a b).2.1 c := by unfold bzU; rw [hc]
 have hW : bzW p a b = sclP p (bzV p a b).2.2 c := by unfold bzW; rw [hc]
 have lead : bzD p a b d = 1 := by rw [hD]; unfold sclP; rw [Nat.mul_comm]; exact i3
 have degD : deg (bzD p a b) = (d : Int) := by
  have h1 := deg_le (f := bzD p a b) (d := (d : Int)) (by omega) (fun k hk hk2 => by rw [hD]; unfold sclP; rw [d3 k (by omega) hk2, Nat.zero_mul, Nat.zero_mod])
  have h2 : ¬ deg (bzD p a b) < (d : Int) := by
   intro h
   have := zero_above h d1
   omega
  omega
 refine ⟨fun k => by rw [hD]; exact Nat.mod_lt _ hp0, ⟨d, degD, lead⟩, ?_, fun c' => ?_⟩
 · rw [hD, hU, hW]
   have s1 := sclP_cg (p := p) (bzV p a b).1 c
   have s2 := cg_mz (g := lz a) (sclP_cg (p := p) (bzV p a b).2.1 c)
   have s3 := cg_mz (g := lz b) (sclP_cg (p := p) (bzV p a b).2.2 c)
   rw [mz_cz] at s2 s3
   refine cg_trans s1 (cg_trans (cg_cz _ r3) (cg_trans (cg_eq ?_) (cg_symm (cg_az s2 s3))))
   funext k; unfold az cz; rw [Int.mul_add]
 · rw [hD]
   refine (dv_congr (sclP_cg (bzV p a b).1 c)).trans ((dv_unit (v := ((bzV p a b).1 d : Int)) ?_).trans (r4 c'))
   have := mod_dvd p (c * (bzV p a b).1 d)
   rw [i3] at this
   obtain ⟨x, hx⟩ := this
   rw [Int.natCast_mul] at hx
   exact ⟨-x, by rw [Int.mul_neg]; omega⟩
/-- a divisor of something other than 0 has no greater degree -/
theorem dv_deg {p : Nat} {f g : Nat → Nat} {d : Nat} (hg : ∀ k, k < 64 → g k < p) (hm : mon f d) (h : dv p (lz f) (lz g)) (h0 : 0 ≤ deg g) : (d : Int) ≤ deg g := by
 by_cases hlt : (d : Int) ≤ deg g
 · exact hlt
 · exfalso
   have hu := rm_unique (d := d) (v := 1) (m := lz f) (f := lz g) (g := zS) (p := p) (by rw [(mon_S hm).1]; exact ⟨0, by omega⟩) (mon_S hm).2 (fun k hk => by
    have : lz g k = 0 := by
     unfold lz
     by_cases hk2 : k < 64
     · rw [cut_in _ hk2, zero_above (f := g) (k := k) (by omega) hk2]; rfl
     · rw [zcz _ (by omega)]; rfl
    rw [this]; exact ⟨0, by unfold zS; omega⟩) h
   have : deg g < 0 := deg_neg_iff.2 (fun k hk => by
    have h3 := hu k
    unfold lz zS at h3
    rw [cut_in _ hk] at h3
    have := hg k hk
    have := dvd_small h3 (by omega) (by omega)
    omega)
   omega
/-- no divisor of a degree between -/
def irr (p : Nat) (m : Nat → Nat) (d : Nat) : Prop := 1 ≤ d ∧ mon m d ∧ (∀ k, m k < p) ∧ ∀ (g : Nat → Nat) (j : Nat), (∀ k, g k < p) → mon g j → dv p (lz g) (lz m) → j = 0 ∨ d ≤ j
theorem one_of_mon0 {f : Nat → Nat} (h : mon f 0) : lz f = oneS := by
 funext k; unfold lz oneS
 by_cases hk : k < 64
 · rw [cut_in _ hk]
   by_cases h0 : k = 0
   · subst h0; rw [if_pos rfl, h.2]; rfl
   · rw [if_neg h0, zero_above (f := f) (k := k) (by have := h.1; omega) hk]; rfl
 · rw [zcz _ (by omega), if_neg (by omega)]; rfl
theorem irr_euc {p : Nat} {m : Nat → Nat} {d : Nat} (hp : p = 2 ∨ p = 3 ∨ p = 5 ∨ p = 7) (h : irr p m d) : euclS p (lz m) := by
 obtain ⟨hd, hm, hlt, hdiv⟩ := h
 have hp0 : 0 < p := by omega
 obtain ⟨d1, _, _⟩ := deg_top hm.1
 intro a b ha hb hab
 obtain ⟨N, hN⟩ := ha
 obtain ⟨g, g1, g2, g3⟩ := rest_ex (p := p) (by omega) (mon_S hm) N a (fun k hk => hN k (by omega))
 -- the rest as cells
 obtain ⟨r, hr⟩ : ∃ r : Nat → Nat, r = fun k => (g k).toNat := ⟨_, rfl⟩
 have hrp : ∀ k, r k < p := fun k => by rw [hr]; show (g k).toNat < p; have := g1 k; omega
 have hlz : lz r = g := by
  funext k; unfold lz
  by_cases hk : k < 64
  · rw [cut_in _ hk, hr]; have := g1 k; show ((g k).toNat : Int) = g k; omega
  · rw [zcz _ (by omega), g2 k (by omega)]; rfl
 by_cases h0 : deg r < 0
 · left
   rw [lz_neg h0] at hlz
   rw [← hlz] at g3
   exact g3
 · right
   obtain ⟨b1, ⟨j, b2⟩, b3, b4⟩ := bz_all (a := m) (b := r) hp (fun k _ => hlt k) (fun k _ => hrp k) (.inr (by omega))
   have hD := (b4 (lz (bzD p m r))).1 (dv_self _)
   have hj0 : j = 0 := by
    rcases hdiv _ j b1 b2 hD.1 with h | h
    · exact h
    · have h2 := dv_deg (fun k _ => hrp k) b2 hD.2 (by omega)
      have h3 : deg r ≤ (d : Int) - 1 := deg_le (by omega) (fun k hk hk2 => by rw [hr]; show (g k).toNat = 0; rw [g2 k (by omega)]; rfl)
      omega
   subst hj0
   rw [one_of_mon0 b2] at b3
   -- b = U m b + W r b
   have e1 : cg p b (az (mz (mz (lz (bzU p m r)) (lz m)) b) (mz (mz (lz (bzW p m r)) (lz r)) b)) := by
    have := cg_mz (g := b) b3
    rw [mz_az] at this
    have e : mz oneS b = b := mz_one b
    rwa [e] at this
   have q1 : dv p (lz m) (mz (mz (lz (bzU p m r)) (lz m)) b) := by
    rw [mz_comm]
    exact dv_mul hb (dv_mul (fin_lz _) (dv_self _))
   have q2 : dv p (lz m) (mz (mz (lz (bzW p m r)) (lz r)) b) := by
    rw [mz_assoc]
    refine dv_mul (fin_lz _) ?_
    rw [hlz]
    exact rm_trans (rm_symm (rm_mz hb g3)) hab
   exact (dv_congr e1).2 (dv_add q1 q2)
/-- an irreducible one divides T^(p^d) - T, and no T^(p^n) - T with a lesser n -/
theorem irr_T {p : Nat} {m : Nat → Nat} {d : Nat} (hp : p = 2 ∨ p = 3 ∨ p = 5 ∨ p = 7) (h : irr p m d) : rm p (lz m) (pwz TS (p ^ d)) TS ∧ ∀ n, 1 ≤ n → rm p (lz m) (pwz TS (p ^ n)) TS → d ≤ n :=
 field_T hp (mon_S h.2.1) (lz_nn m) h.1 (irr_euc hp h)
/-- derivatives -/
def dz (f : Nat → Int) : Nat → Int := fun k => ((k : Int) + 1) * f (k + 1)
theorem dz_mz (f g : Nat → Int) : dz (mz f g) = az (mz (dz f) g) (mz f (dz g)) := by
 funext k
 show ((k : Int) + 1) * cs (k + 1 + 1) (fun i => f i * g (k + 1 - i)) = cs (k + 1) (fun i => ((i : Int) + 1) * f (i + 1) * g (k - i)) + cs (k + 1) (fun i => f i * ((((k - i : Nat) : Int) + 1) * g (k - i + 1)))
 have h1 : ((k : Int) + 1) * cs (k + 1 + 1) (fun i => f i * g (k + 1 - i)) = cs (k + 1 + 1) (fun i => (i : Int) * f i * g (k + 1 - i)) + cs (k + 1 + 1) (fun i => f i * (((k + 1 - i : Nat) : Int) * g (k + 1 - i))) := by
  rw [← cs_mul, ← cs_add]
  refine cs_congr _ (fun i hi => ?_)
  have e : (k : Int) + 1 = (i : Int) + ((k + 1 - i : Nat) : Int) := by omega
  rw [e, Int.add_mul, Int.mul_assoc, Int.mul_left_comm ((k + 1 - i : Nat) : Int)]
 rw [h1, cs_front, cs_s (k + 1) (fun i => f i * (((k + 1 - i : Nat) : Int) * g (k + 1 - i)))]
 have z1 : ((0 : Nat) : Int) * f 0 * g (k + 1 - 0) = 0 := by simp
 have z2 : f (k + 1) * (((k + 1 - (k + 1) : Nat) : Int) * g (k + 1 - (k + 1))) = 0 := by simp
 rw [z1, z2]
 have c1 : cs (k + 1) (fun i => ((i + 1 : Nat) : Int) * f (i + 1) * g (k + 1 - (i + 1))) = cs (k + 1) (fun i => ((i : Int) + 1) * f (i + 1) * g (k - i)) := cs_congr _ (fun i hi => by
  rw [show k + 1 - (i + 1) = k - i by omega]; push_cast; rfl)
 have c2 : cs (k + 1) (fun i => f i * (((k + 1 - i : Nat) : Int) * g (k + 1 - i))) = cs (k + 1) (fun i => f i * ((((k - i : Nat) : Int) + 1) * g (k - i + 1))) := cs_congr _ (fun i hi => by
  rw [show k + 1 - i = k - i + 1 by omega]; push_cast; rfl)
 rw [c1, c2]; omega
theorem dz_cg {p : Int} {f g : Nat → Int} (h : cg p f g) : cg p (dz f) (dz g) := fun k => by
 unfold dz; rw [← Int.mul_sub]; exact Int.dvd_mul_of_dvd_right (h (k + 1))
theorem fin_dz {f : Nat → Int} (h : fin f) : fin (dz f) := by
 obtain ⟨N, h⟩ := h
 exact ⟨N, fun k hk => by unfold dz; rw [h (k + 1) (by omega), Int.mul_zero]⟩
theorem pwz_TS : ∀ n, pwz TS n = fun k => if k = n then 1 else 0
 | 0 => rfl
 | n + 1 => by
  show mz (pwz TS n) TS = _
  rw [mz_comm, mz_TS, pwz_TS n]
  funext k
  cases k with
  | zero => simp
  | succ k => simp
/-- T^(p^n) - T -/
def FS (p n : Nat) : Nat → Int := sz (pwz TS (p ^ n)) TS
theorem dv_FS {p n : Nat} {m : Nat → Int} : dv p m (FS p n) ↔ rm p m (pwz TS (p ^ n)) TS := by
 unfold dv rm
 constructor <;> rintro ⟨q, hq, hc⟩ <;> refine ⟨q, hq, fun k => ?_⟩ <;> have := hc k <;> unfold FS sz zS at * <;> first | rwa [Int.sub_zero] at this | rwa [Int.sub_zero]
/-- no irreducible one divides it twice -/
theorem square_free {p n d : Nat} {m : Nat → Nat} (hp : p = 2 ∨ p = 3 ∨ p = 5 ∨ p = 7) (hn : 1 ≤ n) (h : irr p m d) : ¬ dv p (mz (lz m) (lz m)) (FS p n) := by
 intro hdv
 obtain ⟨q, hq, hc⟩ := dv_ex.1 hdv
 have h1 := dz_cg hc
 have h2 : cg p (dz (FS p n)) (cz (-1) oneS) := by
  intro k
  unfold dz FS sz cz oneS
  rw [pwz_TS]
  show (p : Int) ∣ ((k : Int) + 1) * ((if k + 1 = p ^ n then 1 else 0) - TS (k + 1)) - -1 * (if k = 0 then 1 else 0)
  have hT : TS (k + 1) = if k = 0 then 1 else 0 := by unfold TS; by_cases h : k = 0 <;> simp [h]
  rw [hT]
  have hpn : p ∣ p ^ n := ⟨p ^ (n - 1), by rw [← Nat.pow_succ', show (n - 1).succ = n by omega]⟩
  obtain ⟨x, hx⟩ := hpn
  by_cases h : k + 1 = p ^ n
  · rw [if_pos h]
    by_cases h0 : k = 0
    · rw [if_pos h0]; subst h0; exact ⟨(x : Int), by
       have : ((0 + 1 : Nat) : Int) = ((p * x : Nat) : Int) := by rw [h, hx]
       rw [Int.natCast_mul] at this
       rw [← this]; simp⟩
    · rw [if_neg h0]; exact ⟨(x : Int), by
       have : ((k + 1 : Nat) : Int) = ((p * x : Nat) : Int) := by rw [h, hx]
       rw [Int.natCast_mul] at this
       push_cast at this
       rw [← this]; simp⟩
  · rw [if_neg h]
    by_cases h0 : k = 0
    · rw [if_pos h0]; subst h0; exact ⟨0, by simp⟩
    · rw [if_neg h0]; exact ⟨0, by simp⟩
 have h3 : dv p (lz m) (dz (mz q (mz (lz m) (lz m)))) := by
  rw [dz_mz]
  refine dv_add (dv_mul (fin_dz hq) (dv_mul (fin_lz _) (dv_self _))) (dv_mul hq ?_)
  rw [dz_mz]
  exact dv_add (dv_mul (fin_dz (fin_lz _)) (dv_self _)) (by rw [mz_comm]; exact dv_mul (fin_dz (fin_lz _)) (dv_self _))
 have h4 : dv p (lz m) (cz (-1) oneS) := (dv_congr (cg_trans (cg_symm h1) h2)).1 h3
 have h5 := dv_cz (-1) h4
 have e : cz (-1) (cz (-1) oneS) = lz oneP := by
  funext k; unfold cz lz oneS
  by_cases hk : k < 64
  · rw [cut_in _ hk]; unfold oneP; split <;> rfl
  · rw [zcz _ (by omega), if_neg (by omega)]; rfl
 rw [e] at h5
 have := dv_deg (g := oneP) (fun k _ => by unfold oneP; split <;> omega) h.2.1 h5 (by rw [deg_one]; omega)
 rw [deg_one] at this
 have := h.1
 omega
end Go.Proofs.Ytelgefgphhebnaa
set_option linter.unusedVariables false
namespace Go.Proofs.Ytelgefgphhebnaa
attribute [local irreducible] deg invN quoP resP
/-- the number with the digits f below n -/
def vl (p : Nat) (f : Nat → Nat) : Nat → Nat
 | 0 => 0
 | n + 1 => f 0 + p * vl p (fun k => f (k + 1)) n
theorem ofN_z (p N : Nat) : ofN p N 0 = N % p := by unfold ofN dgt; rw [Nat.pow_zero, Nat.div_one]
theorem ofN_s (p N k : Nat) : ofN p N (k + 1) = ofN p (N / p) k := by unfold ofN dgt; rw [Nat.pow_succ', Nat.div_div_eq_div_mul]
theorem ofN_lt {p : Nat} (hp : 0 < p) (N k : Nat) : ofN p N k < p := Nat.mod_lt _ hp
theorem vl_mod {p : Nat} {f : Nat → Nat} (hf : ∀ k, f k < p) (n : Nat) : vl p f (n + 1) % p = f 0 ∧ vl p f (n + 1) / p = vl p (fun k => f (k + 1)) n := by
 have h0 := hf 0
 show (f 0 + p * _) % p = f 0 ∧ (f 0 + p * _) / p = _
 rw [Nat.add_mul_mod_self_left, Nat.mod_eq_of_lt h0, Nat.add_mul_div_left _ _ (by omega), Nat.div_eq_of_lt h0, Nat.zero_add]
 exact ⟨rfl, rfl⟩
theorem ofN_vl {p : Nat} : ∀ n (f : Nat → Nat), (∀ k, f k < p) → ∀ k, k < n → ofN p (vl p f n) k = f k
 | 0, _, _, k, h => by omega
 | n + 1, f, hf, 0, _ => by rw [ofN_z]; exact (vl_mod hf n).1
 | n + 1, f, hf, k + 1, h => by rw [ofN_s, (vl_mod hf n).2]; exact ofN_vl n _ (fun k => hf (k + 1)) k (by omega)
theorem vl_lt {p : Nat} : ∀ n (f : Nat → Nat), (∀ k, f k < p) → vl p f n < p ^ n
 | 0, _, _ => by show 0 < p ^ 0; rw [Nat.pow_zero]; omega
 | n + 1, f, hf => by
  have h1 := vl_lt n _ (fun k => hf (k + 1))
  have h0 := hf 0
  show f 0 + p * vl p (fun k => f (k + 1)) n < p ^ (n + 1)
  rw [Nat.pow_succ']
  have : p * (vl p (fun k => f (k + 1)) n + 1) ≤ p * p ^ n := Nat.mul_le_mul_left p h1
  rw [Nat.mul_add] at this
  omega
theorem vl_ofN {p : Nat} (hp : 0 < p) : ∀ n N, N < p ^ n → vl p (ofN p N) n = N
 | 0, N, h => by rw [Nat.pow_zero] at h; show 0 = N; omega
 | n + 1, N, h => by
  have h1 := vl_ofN hp n (N / p) (by rw [Nat.div_lt_iff_lt_mul hp]; rwa [Nat.pow_succ] at h)
  have e : (fun k => ofN p N (k + 1)) = ofN p (N / p) := by funext k; exact ofN_s p N k
  show ofN p N 0 + p * vl p (fun k => ofN p N (k + 1)) n = N
  rw [e, h1, ofN_z]
  exact Nat.mod_add_div N p
theorem vl_snoc {p : Nat} : ∀ n (f : Nat → Nat), vl p f (n + 1) = vl p f n + f n * p ^ n
 | 0, f => by show f 0 + p * 0 = 0 + f 0 * p ^ 0; rw [Nat.pow_zero]; omega
 | n + 1, f => by
  show f 0 + p * vl p (fun k => f (k + 1)) (n + 1) = f 0 + p * vl p (fun k => f (k + 1)) n + f (n + 1) * p ^ (n + 1)
  rw [vl_snoc n, Nat.mul_add, Nat.pow_succ', Nat.mul_left_comm, Nat.add_assoc]
theorem vl_congr {p : Nat} : ∀ n {f g : Nat → Nat}, (∀ k, k < n → f k = g k) → vl p f n = vl p g n
 | 0, _, _, _ => rfl
 | n + 1, f, g, h => by
  show f 0 + p * vl p (fun k => f (k + 1)) n = g 0 + p * vl p (fun k => g (k + 1)) n
  rw [h 0 (by omega), vl_congr n (fun k hk => h (k + 1) (by omega))]
/-- the numbers of the monic polynomials of the degree n -/
def monL (p n : Nat) : List Nat := List.range' (p ^ n) (p ^ n)
theorem monL_mem {p n N : Nat} : N ∈ monL p n ↔ p ^ n ≤ N ∧ N < 2 * p ^ n := by
 unfold monL; rw [List.mem_range'_1]; omega
theorem ofN_high {p n N k : Nat} (hp : 2 ≤ p) (h : N < 2 * p ^ n) (hk : n < k) : ofN p N k = 0 := by
 unfold ofN dgt
 have h1 : p ^ (n + 1) ≤ p ^ k := Nat.pow_le_pow_right (by omega) hk
 have h2 : 2 * p ^ n ≤ p * p ^ n := Nat.mul_le_mul_right _ hp
 rw [Nat.pow_succ'] at h1
 rw [Nat.div_eq_of_lt (by omega), Nat.zero_mod]
theorem ofN_top {p n N : Nat} (hp : 2 ≤ p) (h1 : p ^ n ≤ N) (h2 : N < 2 * p ^ n) : ofN p N n = 1 := by
 unfold ofN dgt
 have hpos : 0 < p ^ n := Nat.pow_pos (by omega)
 have : N / p ^ n = 1 := by
  have e : N = (N - p ^ n) + p ^ n * 1 := by omega
  rw [e, Nat.add_mul_div_left _ _ hpos, Nat.div_eq_of_lt (by omega)]
 rw [this, Nat.mod_eq_of_lt (by omega)]
theorem mon_ofN {p n N : Nat} (hp : 2 ≤ p) (hn : n < 64) (h : N ∈ monL p n) : mon (ofN p N) n := by
 obtain ⟨h1, h2⟩ := monL_mem.1 h
 have ht := ofN_top hp h1 h2
 refine ⟨?_, ht⟩
 have a := deg_le (f := ofN p N) (d := (n : Int)) (by omega) (fun k hk _ => ofN_high hp h2 (by omega))
 have b : ¬ deg (ofN p N) < (n : Int) := by
  intro hlt
  have := zero_above hlt hn
  omega
 omega
theorem mon_num {p n : Nat} {f : Nat → Nat} (hp : 2 ≤ p) (hf : ∀ k, f k < p) (h : mon f n) : vl p f (n + 1) ∈ monL p n ∧ ∀ k, k < 64 → ofN p (vl p f (n + 1)) k = f k := by
 obtain ⟨n6, _, hz⟩ := deg_top h.1
 have hm : vl p f (n + 1) ∈ monL p n := by
  rw [monL_mem, vl_snoc, h.2]
  have := vl_lt n f hf
  omega
 refine ⟨hm, fun k hk => ?_⟩
 by_cases hkn : k < n + 1
 · exact ofN_vl (n + 1) f hf k hkn
 · rw [ofN_high hp (monL_mem.1 hm).2 (by omega), hz k (by omega) hk]
theorem mon_inj {p n N M : Nat} (hp : 2 ≤ p) (hn : n < 64) (h1 : N ∈ monL p n) (h2 : M ∈ monL p n) (h : ∀ k, k < 64 → ofN p N k = ofN p M k) : N = M := by
 have b : ∀ N, N ∈ monL p n → N < p ^ (n + 1) := by
  intro N hN
  have := (monL_mem.1 hN).2
  have h2 : 2 * p ^ n ≤ p * p ^ n := Nat.mul_le_mul_right _ hp
  rw [Nat.pow_succ']; omega
 have e1 := vl_ofN (p := p) (by omega) (n + 1) N (b N h1)
 have e2 := vl_ofN (p := p) (by omega) (n + 1) M (b M h2)
 rw [← e1, ← e2]
 exact vl_congr _ (fun k hk => h k (by omega))
/-- what is divided without rest -/
theorem mz_above {q m : Nat → Nat} {j d : Nat} (hq : deg q = (j : Int)) (hm : deg m = (d : Int)) {k : Nat} (hk : j + d < k) : mz (lz q) (lz m) k = 0 := by
 refine cs_zero _ (fun i _ => ?_)
 by_cases h : j < i
 · rw [lz_above hq h, Int.zero_mul]
 · rw [lz_above hm (by omega), Int.mul_zero]
theorem quo_exact {p d : Nat} {a m : Nat → Nat} (hp : p = 2 ∨ p = 3 ∨ p = 5 ∨ p = 7) (ha : ∀ k, k < 64 → a k < p) (hmp : ∀ k, k < 64 → m k < p) (hm : mon m d) (h0 : 0 ≤ deg a) (h : dv p (lz m) (lz a)) :
 cg p (lz a) (mz (lz (quoP p a m)) (lz m)) ∧ deg (quoP p a m) + (d : Int) = deg a := by
 have hp0 : 0 < p := by omega
 have hb0 : 0 ≤ deg m := by rw [hm.1]; omega
 have hr := (res_zero_iff hp ha hmp hb0).2 h
 have hd := divP hp ha hmp hb0
 rw [lz_neg hr, az_zS] at hd
 refine ⟨hd, ?_⟩
 obtain ⟨n, hn⟩ : ∃ n : Nat, deg a = (n : Int) := ⟨(deg a).toNat, by omega⟩
 obtain ⟨n1, n2, n3⟩ := deg_top hn
 have htop := hd n
 have e : lz a n = (a n : Int) := by unfold lz; rw [cut_in a n1]
 rw [e] at htop
 have hne : ¬ mz (lz (quoP p a m)) (lz m) n = 0 := by
  intro hz
  rw [hz, Int.sub_zero] at htop
  have := dvd_small htop (by omega) (by have := ha n n1; omega)
  omega
 have hq0 : 0 ≤ deg (quoP p a m) := by
  by_cases hlt : deg (quoP p a m) < 0
  · exfalso
    apply hne
    rw [lz_neg hlt, zS_mz]; rfl
  · omega
 obtain ⟨j, hj⟩ : ∃ j : Nat, deg (quoP p a m) = (j : Int) := ⟨(deg (quoP p a m)).toNat, by omega⟩
 have hle : deg (quoP p a m) ≤ deg a - deg m := by
  rcases quoP_deg hp0 ha hb0 with h | h
  · omega
  · exact h
 have hge : ¬ j + d < n := fun hlt => hne (mz_above hj hm.1 hlt)
 have := hm.1
 omega
theorem dv_lz {p : Nat} {a q m : Nat → Nat} (h : cg p (lz a) (mz (lz q) (lz m))) : dv p (lz q) (lz a) ∧ dv p (lz m) (lz a) := by
 constructor
 · refine (dv_congr h).2 ?_
   rw [mz_comm]
   exact dv_mul (fin_lz _) (dv_self _)
 · exact (dv_congr h).2 (dv_mul (fin_lz _) (dv_self _))
theorem irr_congr {p d : Nat} {f g : Nat → Nat} (h : ∀ k, k < 64 → f k = g k) (hg : ∀ k, g k < p) (hi : irr p f d) : irr p g d := by
 obtain ⟨h1, h2, h3, h4⟩ := hi
 have e : lz f = lz g := by
  funext k; unfold lz
  by_cases hk : k < 64
  · rw [cut_in _ hk, cut_in _ hk, h k hk]
  · rw [zcz _ (by omega), zcz _ (by omega)]
 obtain ⟨d6, _, _⟩ := deg_top h2.1
 refine ⟨h1, ⟨by rw [← deg_congr h]; exact h2.1, by rw [← h d d6]; exact h2.2⟩, hg, fun x j hx hm hd => h4 x j hx hm (by rw [e]; exact hd)⟩
theorem lz_congr {f g : Nat → Nat} (h : ∀ k, k < 64 → f k = g k) : lz f = lz g := by
 funext k; unfold lz
 by_cases hk : k < 64
 · rw [cut_in _ hk, cut_in _ hk, h k hk]
 · rw [zcz _ (by omega), zcz _ (by omega)]
/-- monic ones of the same degree that divide are the same -/
theorem mon_same {p d : Nat} {f g : Nat → Nat} (hf : ∀ k, k < 64 → f k < p) (hg : ∀ k, k < 64 → g k < p) (h1 : mon f d) (h2 : mon g d) (h : dv p (lz f) (lz g)) : ∀ k, k < 64 → f k = g k := by
 have hu := rm_unique (d := d) (v := 1) (m := lz f) (f := lz f) (g := lz g) (p := p) (by rw [(mon_S h1).1]; exact ⟨0, by omega⟩) (mon_S h1).2 (fun k hk => by
  by_cases e : k = d
  · subst e; rw [(mon_S h1).1, (mon_S h2).1]; exact ⟨0, by omega⟩
  · rw [(mon_S h1).2 k (by omega), (mon_S h2).2 k (by omega)]; exact ⟨0, by omega⟩) (rm_trans (dv_self (p := p) (lz f)) (rm_symm h))
 exact lz_inj hf hg hu
theorem irr_same {p i j : Nat} {f g : Nat → Nat} (hf : irr p f i) (hg : irr p g j) (h : dv p (lz f) (lz g)) : i = j ∧ ∀ k, k < 64 → f k = g k := by
 obtain ⟨f1, f2, f3, f4⟩ := hf
 obtain ⟨g1, g2, g3, g4⟩ := hg
 have h1 := dv_deg (fun k _ => g3 k) f2 h (by rw [g2.1]; omega)
 rw [g2.1] at h1
 have e : i = j := by
  rcases g4 f i f3 f2 h with h | h <;> omega
 subst e
 exact ⟨rfl, mon_same (fun k _ => f3 k) (fun k _ => g3 k) f2 g2 h⟩
/-- f, made monic -/
theorem made_mon {p d : Nat} {f : Nat → Nat} (hp : p = 2 ∨ p = 3 ∨ p = 5 ∨ p = 7) (hf : ∀ k, k < 64 → f k < p) (hd : deg f = (d : Int)) :
 mon (sclP p f (invN p (f d))) d ∧ (∀ k, sclP p f (invN p (f d)) k < p) ∧ (∀ c, dv p c (lz (sclP p f (invN p (f d)))) ↔ dv p c (lz f)) ∧ (∀ c, dv p (lz (sclP p f (invN p (f d)))) c ↔ dv p (lz f) c) := by
 have hp0 : 0 < p := by omega
 obtain ⟨d1, d2, d3⟩ := deg_top hd
 obtain ⟨i1, i2, i3, _⟩ := invF hp d2 (hf d d1)
 obtain ⟨c, hc⟩ : ∃ c, c = invN p (f d) := ⟨_, rfl⟩
 rw [← hc] at i1 i2 i3 ⊢
 have lead : sclP p f c d = 1 := by unfold sclP; rw [Nat.mul_comm]; exact i3
 have hu : (p : Int) ∣ (c : Int) * (f d : Int) - 1 := by
  have := mod_dvd p (c * f d)
  rw [i3] at this
  obtain ⟨x, hx⟩ := this
  rw [Int.natCast_mul] at hx
  exact ⟨-x, by rw [Int.mul_neg]; omega⟩
 refine ⟨⟨?_, lead⟩, fun k => Nat.mod_lt _ hp0, fun c' => ?_, fun c' => ?_⟩
 · have h1 := deg_le (f := sclP p f c) (d := (d : Int)) (by omega) (fun k hk hk2 => by unfold sclP; rw [d3 k (by omega) hk2, Nat.zero_mul, Nat.zero_mod])
   have h2 : ¬ deg (sclP p f c) < (d : Int) := by
    intro h
    have := zero_above h d1
    omega
   omega
 · exact (dv_congr (sclP_cg f c)).trans (dv_unit hu)
 · constructor
   · intro h
     exact dv_trans ((dv_congr (sclP_cg f c)).2 (dv_cz _ (dv_self _))) h
   · intro h
     have : dv p (lz (sclP p f c)) (lz f) := (dv_unit hu).1 ((dv_congr (sclP_cg f c)).1 (dv_self _))
     exact dv_trans this h
theorem irr_ex {p : Nat} {f : Nat → Nat} (hp : p = 2 ∨ p = 3 ∨ p = 5 ∨ p = 7) (hf : ∀ k, k < 64 → f k < p) (h : 1 ≤ deg f) : ∃ g j, irr p g j ∧ dv p (lz g) (lz f) := by
 obtain ⟨d, hd⟩ : ∃ d : Nat, deg f = (d : Int) := ⟨(deg f).toNat, by omega⟩
 obtain ⟨m1, m2, m3, m4⟩ := made_mon hp hf hd
 have key : ∀ j g, 1 ≤ j → (∀ k, g k < p) → mon g j → dv p (lz g) (lz f) → ∃ g j, irr p g j ∧ dv p (lz g) (lz f) := by
  intro j
  induction j using Nat.strongRecOn with
  | _ j ih =>
   intro g hj hg hm hdv
   by_cases hx : ∃ (h : Nat → Nat) (i : Nat), (∀ k, h k < p) ∧ mon h i ∧ dv p (lz h) (lz g) ∧ i ≠ 0 ∧ i < j
   · obtain ⟨x, i, x1, x2, x3, x4, x5⟩ := hx
     exact ih i x5 x (by omega) x1 x2 (dv_trans x3 hdv)
   · refine ⟨g, j, ⟨hj, hm, hg, fun x i x1 x2 x3 => ?_⟩, hdv⟩
     by_cases h0 : i = 0
     · exact .inl h0
     · by_cases h1 : j ≤ i
       · exact .inr h1
       · exact absurd ⟨x, i, x1, x2, x3, h0, by omega⟩ hx
 exact key d _ (by omega) m2 m1 ((m4 _).2 (dv_self _))
theorem irr_mul {p d : Nat} {m : Nat → Nat} {a b : Nat → Int} (hp : p = 2 ∨ p = 3 ∨ p = 5 ∨ p = 7) (h : irr p m d) (ha : fin a) (hb : fin b) (hab : dv p (lz m) (mz a b)) : dv p (lz m) a ∨ dv p (lz m) b := irr_euc hp h a b ha hb hab
/-- how often m divides a, and what is left -/
def dvo (p : Nat) (m : Nat → Nat) : Nat → (Nat → Nat) → Nat × (Nat → Nat)
 | 0, a => (0, a)
 | f + 1, a => if deg (resP p a m) < 0 then ((dvo p m f (quoP p a m)).1 + 1, (dvo p m f (quoP p a m)).2) else (0, a)
theorem dvo_no {p : Nat} {m a : Nat → Nat} (hp : p = 2 ∨ p = 3 ∨ p = 5 ∨ p = 7) (ha : ∀ k, k < 64 → a k < p) (hmp : ∀ k, k < 64 → m k < p) (hb : 0 ≤ deg m) (h : ¬ dv p (lz m) (lz a)) (f : Nat) : dvo p m f a = (0, a) := by
 cases f with
 | zero => rfl
 | succ f =>
  rw [dvo, if_neg]
  intro h2
  exact h ((res_zero_iff hp ha hmp hb).1 h2)
theorem dvo_spec {p d : Nat} {m : Nat → Nat} (hp : p = 2 ∨ p = 3 ∨ p = 5 ∨ p = 7) (hm : irr p m d) : ∀ (f : Nat) (a : Nat → Nat), (∀ k, k < 64 → a k < p) → 0 ≤ deg a → deg a < (f : Int) →
 (∀ k, k < 64 → (dvo p m f a).2 k < p) ∧ 0 ≤ deg (dvo p m f a).2 ∧ deg (dvo p m f a).2 + ((dvo p m f a).1 * d : Nat) = deg a ∧ ¬ dv p (lz m) (lz (dvo p m f a).2) ∧ dv p (lz (dvo p m f a).2) (lz a) ∧
 (dv p (lz m) (lz a) ↔ 0 < (dvo p m f a).1) ∧ (∀ g j, irr p g j → dv p (lz g) (lz a) → (∀ k, k < 64 → g k = m k) ∨ dv p (lz g) (lz (dvo p m f a).2))
 | 0, a, _, h1, h2 => by omega
 | f + 1, a, ha, h1, h2 => by
  obtain ⟨hd, hmm, hml, _⟩ := hm
  have hm : irr p m d := ⟨hd, hmm, hml, by assumption⟩
  have hb : 0 ≤ deg m := by rw [hmm.1]; omega
  have hp0 : 0 < p := by omega
  by_cases hdv : dv p (lz m) (lz a)
  · have hz := (res_zero_iff hp ha (fun k _ => hml k) hb).2 hdv
    rw [dvo, if_pos hz]
    obtain ⟨q1, q2⟩ := quo_exact hp ha (fun k _ => hml k) hmm h1 hdv
    have hq0 : 0 ≤ deg (quoP p a m) := by have := dv_deg ha hmm hdv h1; omega
    obtain ⟨r1, r2, r3, r4, r5, r6, r7⟩ := dvo_spec hp hm f (quoP p a m) (fun k _ => quoP_lt hp0 k) hq0 (by push_cast at h2; omega)
    refine ⟨r1, r2, ?_, r4, dv_trans r5 (dv_lz q1).1, ⟨fun _ => Nat.succ_pos _, fun _ => hdv⟩, fun g j hg hga => ?_⟩
    · show deg (dvo p m f (quoP p a m)).2 + (((dvo p m f (quoP p a m)).1 + 1) * d : Nat) = deg a
      rw [Nat.succ_mul]; omega
    · have h3 := (dv_congr q1).1 hga
      rcases irr_mul hp hg (fin_lz _) (fin_lz _) h3 with h4 | h4
      · exact r7 g j hg h4
      · exact .inl (irr_same hg hm h4).2
  · rw [dvo_no hp ha (fun k _ => hml k) hb hdv]
    refine ⟨ha, h1, by simp, hdv, dv_self _, ⟨fun h => absurd h hdv, fun h => absurd h (by simp)⟩, fun g j _ h => .inr h⟩
/-- no irreducible divisor of a degree less than n -/
def lowf (p n : Nat) (a : Nat → Nat) : Prop := ∀ g j, irr p g j → dv p (lz g) (lz a) → n ≤ j
theorem lowf_dv {p n : Nat} {a b : Nat → Nat} (h : dv p (lz b) (lz a)) (hl : lowf p n a) : lowf p n b := fun g j hg hgb => hl g j hg (dv_trans hgb h)
theorem mon_div_irr {p n N : Nat} {a : Nat → Nat} (hp : p = 2 ∨ p = 3 ∨ p = 5 ∨ p = 7) (hn : 1 ≤ n) (hn2 : n < 64) (hl : lowf p n a) (hN : N ∈ monL p n) (h : dv p (lz (ofN p N)) (lz a)) : irr p (ofN p N) n := by
 have hm := mon_ofN (by omega) hn2 hN
 have hlt : ∀ k, ofN p N k < p := ofN_lt (by omega) N
 obtain ⟨g, j, hg, hgd⟩ := irr_ex hp (fun k _ => hlt k) (f := ofN p N) (by rw [hm.1]; omega)
 have h1 := hl g j hg (dv_trans hgd h)
 have h2 := dv_deg (fun k _ => hlt k) hg.2.1 hgd (by rw [hm.1]; omega)
 rw [hm.1] at h2
 have e : j = n := by omega
 subst e
 exact irr_congr (mon_same (fun k _ => hg.2.2.1 k) (fun k _ => hlt k) hg.2.1 hm hgd) hlt hg
end Go.Proofs.Ytelgefgphhebnaa
set_option linter.unusedVariables false
namespace Go.Proofs.Ytelgefgphhebnaa
attribute [local irreducible] deg invN quoP resP
/-- all of a list, divided out one after the other: what is told, and what is left -/
def foR (p : Nat) : List Nat → (Nat → Nat) → List (Nat × Nat) × (Nat → Nat)
 | [], a => ([], a)
 | N :: ms, a => ((if 0 < (dvo p (ofN p N) 64 a).1 then [(N, (dvo p (ofN p N) 64 a).1)] else []) ++ (foR p ms (dvo p (ofN p N) 64 a).2).1, (foR p ms (dvo p (ofN p N) 64 a).2).2)
/-- degree by degree -/
def run (p : Nat) : Nat → Nat → (Nat → Nat) → List (Nat × Nat)
 | 0, _, _ => []
 | f + 1, n, a => if deg a ≤ 0 then [] else (foR p (monL p n) a).1 ++ run p f (n + 1) (foR p (monL p n) a).2
/-- what holds along a list -/
def okL (p n : Nat) (ms : List Nat) : Prop := ∀ N, N ∈ ms → N ∈ monL p n
theorem foR_spec {p n : Nat} (hp : p = 2 ∨ p = 3 ∨ p = 5 ∨ p = 7) (hn : 1 ≤ n) (hn2 : n < 64) : ∀ (ms : List Nat) (a : Nat → Nat), okL p n ms → (∀ k, k < 64 → a k < p) → 0 ≤ deg a → lowf p n a →
 (∀ k, k < 64 → (foR p ms a).2 k < p) ∧ 0 ≤ deg (foR p ms a).2 ∧ deg (foR p ms a).2 ≤ deg a ∧ dv p (lz (foR p ms a).2) (lz a) ∧ (∀ N, N ∈ ms → ¬ dv p (lz (ofN p N)) (lz (foR p ms a).2))
 | [], a, _, ha, h0, _ => ⟨ha, h0, Int.le_refl _, dv_self _, fun N hN => by cases hN⟩
 | N :: ms, a, hms, ha, h0, hl => by
  have hN := hms N (by simp)
  have hlt : ∀ k, ofN p N k < p := ofN_lt (by omega) N
  have hmN := mon_ofN (by omega) hn2 hN
  by_cases hd : dv p (lz (ofN p N)) (lz a)
  · have hi := mon_div_irr hp hn hn2 hl hN hd
    obtain ⟨r1, r2, r3, r4, r5, r6, r7⟩ := dvo_spec hp hi 64 a ha h0 (by have := zdb a; omega)
    obtain ⟨s1, s2, s3, s4, s5⟩ := foR_spec hp hn hn2 ms (dvo p (ofN p N) 64 a).2 (fun M hM => hms M (by simp [hM])) r1 r2 (lowf_dv r5 hl)
    refine ⟨s1, s2, by show deg (foR p ms (dvo p (ofN p N) 64 a).2).2 ≤ deg a; omega, dv_trans s4 r5, fun M hM => ?_⟩
    rcases List.mem_cons.1 hM with h | h
    · subst h; exact fun h => r4 (dv_trans h s4)
    · exact s5 M h
  · have hno := dvo_no hp ha (fun k _ => hlt k) (by rw [hmN.1]; omega) hd 64
    obtain ⟨s1, s2, s3, s4, s5⟩ := foR_spec hp hn hn2 ms a (fun M hM => hms M (by simp [hM])) ha h0 hl
    rw [foR, hno]
    refine ⟨s1, s2, s3, s4, fun M hM => ?_⟩
    rcases List.mem_cons.1 hM with h | h
    · subst h; exact fun h => hd (dv_trans h s4)
    · exact s5 M h
/-- those that do not divide may be left out -/
theorem foR_filter {p n : Nat} (hp : p = 2 ∨ p = 3 ∨ p = 5 ∨ p = 7) (hn : 1 ≤ n) (hn2 : n < 64) {a : Nat → Nat} (P : Nat → Bool) (hP : ∀ N, N ∈ monL p n → (P N = true ↔ dv p (lz (ofN p N)) (lz a))) : ∀ (ms : List Nat) (b : Nat → Nat), okL p n ms → (∀ k, k < 64 → b k < p) → 0 ≤ deg b → lowf p n b → dv p (lz b) (lz a) →
 foR p ms b = foR p (ms.filter P) b
 | [], _, _, _, _, _, _ => rfl
 | N :: ms, b, hms, hb, h0, hl, hba => by
  have hN := hms N (by simp)
  have hlt : ∀ k, ofN p N k < p := ofN_lt (by omega) N
  have hmN := mon_ofN (by omega) hn2 hN
  have hms' : okL p n ms := fun M hM => hms M (by simp [hM])
  by_cases hd : dv p (lz (ofN p N)) (lz b)
  · have hi := mon_div_irr hp hn hn2 hl hN hd
    obtain ⟨r1, r2, r3, r4, r5, r6, r7⟩ := dvo_spec hp hi 64 b hb h0 (by have := zdb b; omega)
    have ih := foR_filter hp hn hn2 P hP ms (dvo p (ofN p N) 64 b).2 hms' r1 r2 (lowf_dv r5 hl) (dv_trans r5 hba)
    rw [List.filter_cons, if_pos ((hP N hN).2 (dv_trans hd hba))]
    rw [foR, foR, ih]
  · have hno := dvo_no hp hb (fun k _ => hlt k) (by rw [hmN.1]; omega) hd 64
    have ih := foR_filter hp hn hn2 P hP ms b hms' hb h0 hl hba
    rw [foR, hno, List.filter_cons]
    by_cases hq : P N = true
    · rw [if_pos hq, foR, hno, ih]
    · rw [if_neg hq, ← ih]; rfl
/-- the impl's loop: each of the list is told -/
def foI (p : Nat) : List Nat → (Nat → Nat) → List (Nat × Nat) × (Nat → Nat)
 | [], a => ([], a)
 | N :: ms, a => ((N, (dvo p (ofN p N) 64 a).1) :: (foI p ms (dvo p (ofN p N) 64 a).2).1, (foI p ms (dvo p (ofN p N) 64 a).2).2)
theorem foI_eq {p n : Nat} (hp : p = 2 ∨ p = 3 ∨ p = 5 ∨ p = 7) (hn : 1 ≤ n) (hn2 : n < 64) : ∀ (ms : List Nat) (a : Nat → Nat), okL p n ms → ms.Nodup → (∀ k, k < 64 → a k < p) → 0 ≤ deg a → lowf p n a → (∀ N, N ∈ ms → dv p (lz (ofN p N)) (lz a)) →
 foI p ms a = foR p ms a
 | [], _, _, _, _, _, _, _ => rfl
 | N :: ms, a, hms, hnd, ha, h0, hl, hall => by
  have hN := hms N (by simp)
  have hd := hall N (by simp)
  have hi := mon_div_irr hp hn hn2 hl hN hd
  rw [List.nodup_cons] at hnd
  obtain ⟨r1, r2, r3, r4, r5, r6, r7⟩ := dvo_spec hp hi 64 a ha h0 (by have := zdb a; omega)
  have ih := foI_eq hp hn hn2 ms (dvo p (ofN p N) 64 a).2 (fun M hM => hms M (by simp [hM])) hnd.2 r1 r2 (lowf_dv r5 hl) (fun M hM => by
   have hM' := hms M (by simp [hM])
   have hdM := hall M (by simp [hM])
   rcases r7 _ n (mon_div_irr hp hn hn2 hl hM' hdM) hdM with h | h
   · have := mon_inj (by omega) hn2 hM' hN h
     subst this; exact absurd hM hnd.1
   · exact h)
  rw [foI, foR, ih, if_pos (r6.1 hd)]; rfl
/-- different irreducible ones of the degree n that divide: found one after the other -/
def eqf (p n : Nat) : List Nat → (Nat → Nat) → List Nat
 | [], a => if deg a = (n : Int) then [vl p a (n + 1)] else []
 | N :: ms, a => if deg a ≤ (n : Int) then (if deg a = (n : Int) then [vl p a (n + 1)] else []) else if deg (resP p a (ofN p N)) < 0 then N :: eqf p n ms (quoP p a (ofN p N)) else eqf p n ms a
theorem eqf_spec {p n : Nat} (hp : p = 2 ∨ p = 3 ∨ p = 5 ∨ p = 7) (hn : 1 ≤ n) (hn2 : n < 64) (P : Nat → Bool) : ∀ (ms : List Nat) (a : Nat → Nat), okL p n ms → ms.Nodup → (∀ k, a k < p) → (∃ d, mon a d) →
 (∀ N, N ∈ ms → (P N = true ↔ dv p (lz (ofN p N)) (lz a))) → (∀ g j, irr p g j → dv p (lz g) (lz a) → j = n ∧ vl p g (n + 1) ∈ ms) → (∀ g j, irr p g j → ¬ dv p (mz (lz g) (lz g)) (lz a)) →
 eqf p n ms a = ms.filter P := by
 intro ms
 -- what is left when the degree is at most n
 have stop : ∀ (ms : List Nat) (a : Nat → Nat), okL p n ms → ms.Nodup → (∀ k, a k < p) → (∃ d, mon a d) → (∀ N, N ∈ ms → (P N = true ↔ dv p (lz (ofN p N)) (lz a))) → (∀ g j, irr p g j → dv p (lz g) (lz a) → j = n ∧ vl p g (n + 1) ∈ ms) → deg a ≤ (n : Int) →
  (if deg a = (n : Int) then [vl p a (n + 1)] else []) = ms.filter P := by
  intro ms a hms hnd ha hmon hP hirr hle
  obtain ⟨d, hd⟩ := hmon
  by_cases he : deg a = (n : Int)
  · rw [if_pos he]
    have e : d = n := by have := hd.1; omega
    subst e
    obtain ⟨g, j, hg, hga⟩ := irr_ex hp (fun k _ => ha k) (f := a) (by omega)
    obtain ⟨hj, hmem⟩ := hirr g j hg hga
    subst hj
    have same := mon_same (fun k _ => hg.2.2.1 k) (fun k _ => ha k) hg.2.1 hd hga
    have hv : vl p g (j + 1) = vl p a (j + 1) := vl_congr _ (fun k hk => same k (by omega))
    rw [hv] at hmem
    obtain ⟨v1, v2⟩ := mon_num (by omega) ha hd
    have uniq : ∀ N, N ∈ ms → (P N = true ↔ N = vl p a (j + 1)) := by
     intro N hN
     rw [hP N hN]
     constructor
     · intro h
       have hs := mon_same (fun k _ => ofN_lt (by omega) N k) (fun k _ => ha k) (mon_ofN (by omega) hn2 (hms N hN)) hd h
       exact mon_inj (by omega) hn2 (hms N hN) v1 (fun k hk => by rw [hs k hk, v2 k hk])
     · intro h
       subst h
       rw [lz_congr v2]
       exact dv_self _
    symm
    -- a list without repetition, one alone
    have one : ∀ (l : List Nat) (x : Nat), l.Nodup → x ∈ l → (∀ N, N ∈ l → (P N = true ↔ N = x)) → l.filter P = [x] := by
     intro l x
     induction l with
     | nil => intro _ h; cases h
     | cons y l ih =>
      intro hnd hx hu
      rw [List.nodup_cons] at hnd
      rw [List.filter_cons]
      by_cases hy : y = x
      · subst hy
        rw [if_pos ((hu y (by simp)).2 rfl)]
        have : l.filter P = [] := List.filter_eq_nil_iff.2 (fun N hN h => by
         have := (hu N (by simp [hN])).1 h
         subst this; exact hnd.1 hN)
        rw [this]
      · rw [if_neg (fun h => hy ((hu y (by simp)).1 h))]
        refine ih hnd.2 ?_ (fun N hN => hu N (by simp [hN]))
        rcases List.mem_cons.1 hx with h | h
        · exact absurd h.symm hy
        · exact h
    exact one ms _ hnd hmem uniq
  · rw [if_neg he]
    symm
    refine List.filter_eq_nil_iff.2 (fun N hN h => ?_)
    have h1 := (hP N hN).1 h
    have hmN := mon_ofN (p := p) (by omega) hn2 (hms N hN)
    have := dv_deg (fun k _ => ha k) hmN h1 (by rw [hd.1]; omega)
    omega
 induction ms with
 | nil =>
  intro a hms hnd ha hmon hP hirr hsq
  have hle : deg a ≤ (n : Int) := by
   by_cases h : deg a ≤ (n : Int)
   · exact h
   · exfalso
     obtain ⟨g, j, hg, hga⟩ := irr_ex hp (fun k _ => ha k) (f := a) (by omega)
     have := (hirr g j hg hga).2
     cases this
  exact stop [] a hms hnd ha hmon hP hirr hle
 | cons N ms ih =>
  intro a hms hnd ha hmon hP hirr hsq
  by_cases hle : deg a ≤ (n : Int)
  · rw [eqf, if_pos hle]
    exact stop (N :: ms) a hms hnd ha hmon hP hirr hle
  · rw [eqf, if_neg hle]
    have hN := hms N (by simp)
    have hlt : ∀ k, ofN p N k < p := ofN_lt (by omega) N
    have hmN := mon_ofN (p := p) (by omega) hn2 hN
    have hnd' := List.nodup_cons.1 hnd
    have hms' : okL p n ms := fun M hM => hms M (by simp [hM])
    have hlow : lowf p n a := fun g j hg hga => by rw [(hirr g j hg hga).1]; exact Nat.le_refl _
    by_cases hd : dv p (lz (ofN p N)) (lz a)
    · rw [if_pos ((res_zero_iff hp (fun k _ => ha k) (fun k _ => hlt k) (by rw [hmN.1]; omega)).2 hd), List.filter_cons, if_pos ((hP N (by simp)).2 hd)]
      have hi := mon_div_irr hp hn hn2 hlow hN hd
      obtain ⟨q1, q2⟩ := quo_exact hp (fun k _ => ha k) (fun k _ => hlt k) hmN (by omega) hd
      have hnot : ¬ dv p (lz (ofN p N)) (lz (quoP p a (ofN p N))) := by
       intro h
       refine hsq _ n hi ((dv_congr q1).2 ?_)
       obtain ⟨x, hx, hc⟩ := dv_ex.1 h
       refine dv_ex.2 ⟨x, hx, ?_⟩
       rw [← mz_assoc]
       exact cg_mz hc
      congr 1
      have hdq : ∃ d : Nat, deg (quoP p a (ofN p N)) = (d : Int) := ⟨(deg (quoP p a (ofN p N))).toNat, by omega⟩
      obtain ⟨d, hd2⟩ := hdq
      have hqlt : ∀ k, quoP p a (ofN p N) k < p := quoP_lt (by omega)
      refine ih (quoP p a (ofN p N)) hms' hnd'.2 hqlt ⟨d, hd2, ?_⟩ (fun M hM => ?_) (fun g j hg hga => ?_) (fun g j hg h => hsq g j hg (dv_trans h (dv_lz q1).1))
      · -- the leading coefficient
        obtain ⟨D, hD⟩ := hmon
        obtain ⟨d6, _, _⟩ := deg_top hd2
        obtain ⟨D6, _, _⟩ := deg_top hD.1
        have eD : D = d + n := by have := hD.1; omega
        have h1 := q1 D
        have h2 : (p : Int) ∣ mz (lz (quoP p a (ofN p N))) (lz (ofN p N)) D - lz (quoP p a (ofN p N)) d * lz (ofN p N) (D - d) := by
         refine cs_but (t := fun i => lz (quoP p a (ofN p N)) i * lz (ofN p N) (D - i)) _ (by omega) (fun i hi hne => ?_)
         by_cases hlt2 : d < i
         · rw [lz_above hd2 hlt2, Int.zero_mul]; exact ⟨0, by omega⟩
         · rw [lz_above hmN.1 (by omega), Int.mul_zero]; exact ⟨0, by omega⟩
        have e1 : lz a D = 1 := by unfold lz; rw [cut_in _ D6, hD.2]; rfl
        have e2 : lz (ofN p N) (D - d) = 1 := by rw [eD, show d + n - d = n by omega]; unfold lz; rw [cut_in _ hn2, hmN.2]; rfl
        have e3 : lz (quoP p a (ofN p N)) d = (quoP p a (ofN p N) d : Int) := by unfold lz; rw [cut_in _ d6]
        rw [e1] at h1
        rw [e2, e3, Int.mul_one] at h2
        have h3 := Int.dvd_add h1 h2
        have h4 : (p : Int) ∣ 1 - (quoP p a (ofN p N) d : Int) := by
         rwa [show 1 - mz (lz (quoP p a (ofN p N))) (lz (ofN p N)) D + (mz (lz (quoP p a (ofN p N))) (lz (ofN p N)) D - (quoP p a (ofN p N) d : Int)) = 1 - (quoP p a (ofN p N) d : Int) by omega] at h3
        have := hqlt d
        have := dvd_small h4 (by omega) (by omega)
        omega
      · have hM' := hms M (by simp [hM])
        rw [hP M (by simp [hM])]
        constructor
        · intro h
          have hiM := mon_div_irr hp hn hn2 hlow hM' h
          rcases irr_mul hp hiM (fin_lz _) (fin_lz _) ((dv_congr q1).1 h) with h4 | h4
          · exact h4
          · have := mon_inj (by omega) hn2 hM' hN (irr_same hiM hi h4).2
            subst this; exact absurd hM hnd'.1
        · intro h; exact dv_trans h (dv_lz q1).1
      · obtain ⟨a1, a2⟩ := hirr g j hg (dv_trans hga (dv_lz q1).1)
        refine ⟨a1, ?_⟩
        rcases List.mem_cons.1 a2 with h | h
        · exfalso
          subst a1
          have hv := (mon_num (p := p) (by omega) hg.2.2.1 hg.2.1).2
          rw [h] at hv
          rw [← lz_congr hv] at hga
          exact hnot hga
        · exact h
    · rw [if_neg (fun h => hd ((res_zero_iff hp (fun k _ => ha k) (fun k _ => hlt k) (by rw [hmN.1]; omega)).1 h)), List.filter_cons, if_neg (fun h => hd ((hP N (by simp)).1 h))]
      refine ih a hms' hnd'.2 ha hmon (fun M hM => hP M (by simp [hM])) (fun g j hg hga => ?_) hsq
      obtain ⟨a1, a2⟩ := hirr g j hg hga
      refine ⟨a1, ?_⟩
      rcases List.mem_cons.1 a2 with h | h
      · exfalso
        subst a1
        have hv := (mon_num (p := p) (by omega) hg.2.2.1 hg.2.1).2
        rw [h] at hv
        rw [← lz_congr hv] at hga
        exact hd hga
      · exact h
end Go.Proofs.Ytelgefgphhebnaa
set_option linter.unusedVariables false
namespace Go.Proofs.Ytelgefgphhebnaa
attribute [local irreducible] deg invN quoP resP
theorem lowf_next {p n : Nat} {a b : Nat → Nat} (hp : 2 ≤ p) (hl : lowf p n a) (hb : dv p (lz b) (lz a)) (h : ∀ N, N ∈ monL p n → ¬ dv p (lz (ofN p N)) (lz b)) : lowf p (n + 1) b := by
 intro g j hg hgb
 have h1 := hl g j hg (dv_trans hgb hb)
 by_cases e : j = n
 · exfalso
   subst e
   obtain ⟨v1, v2⟩ := mon_num hp hg.2.2.1 hg.2.1
   refine h _ v1 ?_
   rw [lz_congr v2]; exact hgb
 · omega
theorem lowf_one {p : Nat} (a : Nat → Nat) : lowf p 1 a := fun _ _ hg _ => hg.1
/-- as long as something is left, its degree is at least n -/
theorem low_deg {p n : Nat} {a : Nat → Nat} (hp : p = 2 ∨ p = 3 ∨ p = 5 ∨ p = 7) (ha : ∀ k, k < 64 → a k < p) (h1 : 1 ≤ deg a) (hl : lowf p n a) : (n : Int) ≤ deg a := by
 obtain ⟨g, j, hg, hga⟩ := irr_ex hp ha h1
 have h2 := hl g j hg hga
 have h3 := dv_deg ha hg.2.1 hga (by omega)
 omega
theorem run_z {p f n : Nat} {a : Nat → Nat} (h : deg a ≤ 0) : run p f n a = [] := by
 cases f with
 | zero => rfl
 | succ f => rw [run, if_pos h]
theorem run_s {p f n : Nat} {a : Nat → Nat} (h : ¬ deg a ≤ 0) : run p (f + 1) n a = (foR p (monL p n) a).1 ++ run p f (n + 1) (foR p (monL p n) a).2 := by
 rw [run, if_neg h]
/-- a stage with the common divisor C of a and T^(p^n) - T -/
theorem stage {p n : Nat} {a C : Nat → Nat} (hp : p = 2 ∨ p = 3 ∨ p = 5 ∨ p = 7) (hn : 1 ≤ n) (hn2 : n < 64) (ha : ∀ k, k < 64 → a k < p) (h0 : 0 ≤ deg a) (hl : lowf p n a)
 (hC : ∀ k, C k < p) (hm : ∃ d, mon C d) (hdv : ∀ c, dv p c (lz C) ↔ (dv p c (lz a) ∧ dv p c (FS p n))) :
 foI p (eqf p n (monL p n) C) a = foR p (monL p n) a ∧ okL p n (eqf p n (monL p n) C) := by
 classical
 have nd : (monL p n).Nodup := by unfold monL; exact List.nodup_range'
 have all : okL p n (monL p n) := fun N h => h
 have irrC : ∀ g j, irr p g j → dv p (lz g) (lz C) → j = n ∧ vl p g (n + 1) ∈ monL p n := by
  intro g j hg hgc
  obtain ⟨h1, h2⟩ := (hdv _).1 hgc
  have h3 := hl g j hg h1
  have h4 := (irr_T hp hg).2 n hn (dv_FS.1 h2)
  have e : j = n := by omega
  subst e
  exact ⟨rfl, (mon_num (by omega) hg.2.2.1 hg.2.1).1⟩
 have dvC : ∀ N, N ∈ monL p n → (dv p (lz (ofN p N)) (lz C) ↔ dv p (lz (ofN p N)) (lz a)) := by
  intro N hN
  constructor
  · intro h; exact ((hdv _).1 h).1
  · intro h
    have hi := mon_div_irr hp hn hn2 hl hN h
    exact (hdv _).2 ⟨h, dv_FS.2 (irr_T hp hi).1⟩
 have key := eqf_spec hp hn hn2 (fun N => decide (dv p (lz (ofN p N)) (lz a))) (monL p n) C all nd hC hm (fun N hN => by rw [dvC N hN]; simp) irrC (fun g j hg h => square_free hp hn hg ((hdv _).1 h).2)
 have okf : okL p n ((monL p n).filter (fun N => decide (dv p (lz (ofN p N)) (lz a)))) := fun N hN => (List.mem_filter.1 hN).1
 rw [key]
 refine ⟨?_, okf⟩
 rw [foI_eq hp hn hn2 _ a okf (List.Nodup.sublist List.filter_sublist nd) ha h0 hl (fun N hN => by simpa using (List.mem_filter.1 hN).2)]
 exact (foR_filter hp hn hn2 _ (fun N _ => by simp) (monL p n) a all ha h0 hl (dv_self _)).symm
/-- what is told of a list: irreducible ones that divide -/
theorem foR_mem {p n : Nat} (hp : p = 2 ∨ p = 3 ∨ p = 5 ∨ p = 7) (hn : 1 ≤ n) (hn2 : n < 64) : ∀ (ms : List Nat) (a : Nat → Nat), okL p n ms → (∀ k, k < 64 → a k < p) → 0 ≤ deg a → lowf p n a → ∀ x, x ∈ (foR p ms a).1 → x.1 ∈ ms ∧ irr p (ofN p x.1) n ∧ dv p (lz (ofN p x.1)) (lz a) ∧ 1 ≤ x.2 ∧ ((x.2 * n : Nat) : Int) ≤ deg a
 | [], _, _, _, _, _, x, hx => by cases hx
 | N :: ms, a, hms, ha, h0, hl, x, hx => by
  have hN := hms N (by simp)
  have hlt : ∀ k, ofN p N k < p := ofN_lt (by omega) N
  have hmN := mon_ofN (p := p) (by omega) hn2 hN
  have hms' : okL p n ms := fun M hM => hms M (by simp [hM])
  rw [foR] at hx
  by_cases hd : dv p (lz (ofN p N)) (lz a)
  · have hi := mon_div_irr hp hn hn2 hl hN hd
    obtain ⟨r1, r2, r3, r4, r5, r6, r7⟩ := dvo_spec hp hi 64 a ha h0 (by have := zdb a; omega)
    have h6 := r6.1 hd
    rcases List.mem_append.1 hx with h | h
    · rw [if_pos h6] at h
      have := List.mem_singleton.1 h
      subst this
      exact ⟨by simp, hi, hd, h6, by show (((dvo p (ofN p N) 64 a).1 * n : Nat) : Int) ≤ deg a; omega⟩
    · obtain ⟨a1, a2, a3, a4, a5⟩ := foR_mem hp hn hn2 ms _ hms' r1 r2 (lowf_dv r5 hl) x h
      exact ⟨by simp [a1], a2, dv_trans a3 r5, a4, by omega⟩
  · rw [dvo_no hp ha (fun k _ => hlt k) (by rw [hmN.1]; omega) hd 64] at hx
    simp only [Nat.lt_irrefl, if_false, List.nil_append] at hx
    obtain ⟨a1, a2, a3, a4, a5⟩ := foR_mem hp hn hn2 ms _ hms' ha h0 hl x hx
    exact ⟨by simp [a1], a2, a3, a4, a5⟩
theorem run_mem {p : Nat} (hp : p = 2 ∨ p = 3 ∨ p = 5 ∨ p = 7) : ∀ (f n : Nat) (a : Nat → Nat), 1 ≤ n → (∀ k, k < 64 → a k < p) → 0 ≤ deg a → lowf p n a → ∀ x, x ∈ run p f n a → ∃ j, n ≤ j ∧ j < 64 ∧ x.1 ∈ monL p j ∧ irr p (ofN p x.1) j ∧ dv p (lz (ofN p x.1)) (lz a) ∧ 1 ≤ x.2 ∧ ((x.2 * j : Nat) : Int) ≤ deg a
 | 0, _, _, _, _, _, _, x, hx => by cases hx
 | f + 1, n, a, hn, ha, h0, hl, x, hx => by
  by_cases hz : deg a ≤ 0
  · rw [run_z hz] at hx; cases hx
  · rw [run_s hz] at hx
    have hlow := low_deg hp ha (by omega) hl
    have hn2 : n < 64 := by have := zdb a; omega
    obtain ⟨s1, s2, s3, s4, s5⟩ := foR_spec hp hn hn2 (monL p n) a (fun _ h => h) ha h0 hl
    rcases List.mem_append.1 hx with h | h
    · obtain ⟨a1, a2, a3, a4, a5⟩ := foR_mem hp hn hn2 (monL p n) a (fun _ h => h) ha h0 hl x h
      exact ⟨n, Nat.le_refl _, hn2, a1, a2, a3, a4, a5⟩
    · obtain ⟨j, j1, j2, j3, j4, j5, j6, j7⟩ := run_mem hp f (n + 1) _ (by omega) s1 s2 (lowf_next (by omega) hl s4 s5) x h
      exact ⟨j, by omega, j2, j3, j4, dv_trans j5 s4, j6, by omega⟩
/-- nothing below the degree of an irreducible one -/
theorem foR_none {p n : Nat} (hp : p = 2 ∨ p = 3 ∨ p = 5 ∨ p = 7) (hn2 : n < 64) : ∀ (ms : List Nat) (a : Nat → Nat), okL p n ms → (∀ k, k < 64 → a k < p) → (∀ N, N ∈ ms → ¬ dv p (lz (ofN p N)) (lz a)) → foR p ms a = ([], a)
 | [], _, _, _, _ => rfl
 | N :: ms, a, hms, ha, h => by
  have hN := hms N (by simp)
  have hlt : ∀ k, ofN p N k < p := ofN_lt (by omega) N
  have hmN := mon_ofN (p := p) (by omega) hn2 hN
  rw [foR, dvo_no hp ha (fun k _ => hlt k) (by rw [hmN.1]; omega) (h N (by simp)) 64]
  have := foR_none hp hn2 ms a (fun M hM => hms M (by simp [hM])) ha (fun M hM => h M (by simp [hM]))
  simp only [Nat.lt_irrefl, if_false, List.nil_append]
  rw [this]
/-- of an irreducible one, but for a number, itself alone is told -/
theorem foR_own {p n : Nat} {g : Nat → Nat} (hp : p = 2 ∨ p = 3 ∨ p = 5 ∨ p = 7) (hn : 1 ≤ n) (hn2 : n < 64) (hg : irr p g n) : ∀ (ms : List Nat) (a : Nat → Nat), okL p n ms → ms.Nodup → (∀ k, k < 64 → a k < p) → deg a = (n : Int) → dv p (lz g) (lz a) → vl p g (n + 1) ∈ ms → lowf p n a → (foR p ms a).1 = [(vl p g (n + 1), 1)] ∧ deg (foR p ms a).2 = 0
 | [], _, _, _, _, _, _, h, _ => by cases h
 | N :: ms, a, hms, hnd, ha, hda, hga, hmem, hl => by
  have hN := hms N (by simp)
  have hlt : ∀ k, ofN p N k < p := ofN_lt (by omega) N
  have hmN := mon_ofN (p := p) (by omega) hn2 hN
  have hms' : okL p n ms := fun M hM => hms M (by simp [hM])
  rw [List.nodup_cons] at hnd
  obtain ⟨v1, v2⟩ := mon_num (p := p) (by omega) hg.2.2.1 hg.2.1
  -- who divides a is g
  have only : ∀ M, M ∈ monL p n → dv p (lz (ofN p M)) (lz a) → M = vl p g (n + 1) := by
   intro M hM h
   have hiM := mon_div_irr hp hn hn2 hl hM h
   obtain ⟨q1, q2⟩ := quo_exact hp ha (fun k _ => hg.2.2.1 k) hg.2.1 (by omega) hga
   rcases irr_mul hp hiM (fin_lz _) (fin_lz _) ((dv_congr q1).1 h) with h4 | h4
   · exfalso
     have := dv_deg (g := quoP p a g) (fun k _ => quoP_lt (by omega) k) hiM.2.1 h4 (by omega)
     omega
   · have hs := (irr_same hiM hg h4).2
     exact mon_inj (by omega) hn2 hM v1 (fun k hk => by rw [hs k hk, v2 k hk])
  by_cases e : N = vl p g (n + 1)
  · have hd : dv p (lz (ofN p N)) (lz a) := by rw [e, lz_congr v2]; exact hga
    have hi := mon_div_irr hp hn hn2 hl hN hd
    obtain ⟨r1, r2, r3, r4, r5, r6, r7⟩ := dvo_spec hp hi 64 a ha (by omega) (by omega)
    have h6 := r6.1 hd
    have h1 : (dvo p (ofN p N) 64 a).1 = 1 := by
     have : (dvo p (ofN p N) 64 a).1 * n ≤ 1 * n := by omega
     have := Nat.le_of_mul_le_mul_right this (by omega)
     omega
    have hd0 : deg (dvo p (ofN p N) 64 a).2 = 0 := by rw [h1] at r3; omega
    have hno : foR p ms (dvo p (ofN p N) 64 a).2 = ([], (dvo p (ofN p N) 64 a).2) := foR_none hp hn2 ms _ hms' r1 (fun M hM h => by
     have := dv_deg r1 (mon_ofN (p := p) (by omega) hn2 (hms' M hM)) h (by omega)
     omega)
    rw [foR, hno, if_pos h6, h1, e]
    refine ⟨by simp, ?_⟩
    show deg (dvo p (ofN p (vl p g (n + 1))) 64 a).2 = 0
    rw [← e]; exact hd0
  · have hd : ¬ dv p (lz (ofN p N)) (lz a) := fun h => e (only N hN h)
    have hno := dvo_no hp ha (fun k _ => hlt k) (by rw [hmN.1]; omega) hd 64
    have ih := foR_own hp hn hn2 hg ms a hms' hnd.2 ha hda hga (by
     rcases List.mem_cons.1 hmem with h | h
     · exact absurd h.symm e
     · exact h) hl
    rw [foR, hno]
    simpa using ih
/-- an irreducible one times a number: it is told alone, in whatever degree the search stands -/
theorem run_own {p d : Nat} {g : Nat → Nat} (hp : p = 2 ∨ p = 3 ∨ p = 5 ∨ p = 7) (hg : irr p g d) : ∀ (f n : Nat) (a : Nat → Nat), 1 ≤ n → n ≤ d → d < n + f → (∀ k, k < 64 → a k < p) → deg a = (d : Int) → dv p (lz g) (lz a) → run p f n a = [(vl p g (d + 1), 1)]
 | 0, n, a, _, h1, h2, _, _, _ => by omega
 | f + 1, n, a, hn, h1, h2, ha, hda, hga => by
  obtain ⟨d6, _, _⟩ := deg_top hda
  have hd1 := hg.1
  have hlow : lowf p d a := by
   intro x j hx hxa
   obtain ⟨q1, q2⟩ := quo_exact hp ha (fun k _ => hg.2.2.1 k) hg.2.1 (by omega) hga
   rcases irr_mul hp hx (fin_lz _) (fin_lz _) ((dv_congr q1).1 hxa) with h4 | h4
   · exfalso
     have := dv_deg (g := quoP p a g) (fun k _ => quoP_lt (by omega) k) hx.2.1 h4 (by omega)
     have := hx.1
     omega
   · have := (irr_same hx hg h4).1; omega
  rw [run_s (by omega)]
  by_cases e : n = d
  · subst e
    obtain ⟨o1, o2⟩ := foR_own hp hn d6 hg (monL p n) a (fun _ h => h) (by unfold monL; exact List.nodup_range') ha hda hga (mon_num (p := p) (by omega) hg.2.2.1 hg.2.1).1 hlow
    rw [o1, run_z (by omega)]; rfl
  · have hno := foR_none hp (by omega) (monL p n) a (fun _ h => h) ha (fun N hN h => by
     have hmN := mon_ofN (p := p) (n := n) (by omega) (by omega) hN
     obtain ⟨x, j, hx, hxd⟩ := irr_ex hp (fun k _ => ofN_lt (p := p) (by omega) N k) (f := ofN p N) (by rw [hmN.1]; omega)
     have h3 := hlow x j hx (dv_trans hxd h)
     have h4 := dv_deg (fun k _ => ofN_lt (p := p) (by omega) N k) hx.2.1 hxd (by rw [hmN.1]; omega)
     rw [hmN.1] at h4
     omega)
    rw [hno]
    exact run_own hp hg f (n + 1) a (by omega) (by omega) (by omega) ha hda hga
/-- what is left when two factors would exceed the degree -/
theorem left_irr {p n : Nat} {a : Nat → Nat} (hp : p = 2 ∨ p = 3 ∨ p = 5 ∨ p = 7) (ha : ∀ k, k < 64 → a k < p) (h1 : 1 ≤ deg a) (h2 : deg a < 2 * (n : Int)) (hl : lowf p n a) : ∃ g d, irr p g d ∧ deg a = (d : Int) ∧ dv p (lz g) (lz a) ∧ n ≤ d := by
 obtain ⟨g, j, hg, hga⟩ := irr_ex hp ha h1
 have h3 := hl g j hg hga
 obtain ⟨q1, q2⟩ := quo_exact hp ha (fun k _ => hg.2.2.1 k) hg.2.1 (by omega) hga
 have h4 := dv_deg ha hg.2.1 hga (by omega)
 by_cases hq : 1 ≤ deg (quoP p a g)
 · exfalso
   obtain ⟨x, i, hx, hxq⟩ := irr_ex hp (fun k _ => quoP_lt (p := p) (a := a) (b := g) (by omega) k) hq
   have h5 := hl x i hx (dv_trans hxq (dv_lz q1).1)
   have h6 := dv_deg (g := quoP p a g) (fun k _ => quoP_lt (p := p) (by omega) k) hx.2.1 hxq (by omega)
   omega
 · exact ⟨g, j, hg, by omega, hga, h3⟩
end Go.Proofs.Ytelgefgphhebnaa
set_option linter.unusedVariables false
namespace Go.Proofs.Ytelgefgphhebnaa
attribute [local irreducible] deg invN quoP resP
/-- trial division by those of the degree n, as long as two factors fit -/
def spI (p n : Nat) : List Nat → (Nat → Nat) → List (Nat × Nat) × (Nat → Nat)
 | [], a => ([], a)
 | N :: ms, a => if 2 * (n : Int) ≤ deg a then ((if 0 < (dvo p (ofN p N) 64 a).1 then [(N, (dvo p (ofN p N) 64 a).1)] else []) ++ (spI p n ms (dvo p (ofN p N) 64 a).2).1, (spI p n ms (dvo p (ofN p N) 64 a).2).2) else ([], a)
def spO (p : Nat) : Nat → Nat → (Nat → Nat) → List (Nat × Nat) × (Nat → Nat)
 | 0, _, a => ([], a)
 | f + 1, n, a => if 2 * (n : Int) ≤ deg a then ((spI p n (monL p n) a).1 ++ (spO p f (n + 1) (spI p n (monL p n) a).2).1, (spO p f (n + 1) (spI p n (monL p n) a).2).2) else ([], a)
/-- what is left, made monic -/
def monP (p : Nat) (a : Nat → Nat) : Nat → Nat := sclP p a (invN p (a (deg a).toNat))
def finL (p : Nat) (a : Nat → Nat) : List (Nat × Nat) := if 0 < deg a then [(vl p (monP p a) ((deg a).toNat + 1), 1)] else []
theorem finL_z {p : Nat} {a : Nat → Nat} (h : deg a ≤ 0) : finL p a = [] := by unfold finL; rw [if_neg (by omega)]
theorem finL_own {p d : Nat} {a g : Nat → Nat} (hp : p = 2 ∨ p = 3 ∨ p = 5 ∨ p = 7) (ha : ∀ k, k < 64 → a k < p) (hg : irr p g d) (hd : deg a = (d : Int)) (hga : dv p (lz g) (lz a)) : finL p a = [(vl p g (d + 1), 1)] := by
 have h1 := hg.1
 unfold finL
 rw [if_pos (by omega)]
 obtain ⟨m1, m2, m3, m4⟩ := made_mon hp ha hd
 obtain ⟨d6, _, _⟩ := deg_top hd
 have e : monP p a = sclP p a (invN p (a d)) := by unfold monP; rw [hd]; rfl
 have hs := mon_same (fun k _ => hg.2.2.1 k) (fun k _ => m2 k) hg.2.1 m1 ((m3 _).2 hga)
 rw [e, hd]
 have : vl p (sclP p a (invN p (a d))) (d + 1) = vl p g (d + 1) := vl_congr _ (fun k hk => (hs k (by omega)).symm)
 show [(vl p (sclP p a (invN p (a d))) (d + 1), 1)] = _
 rw [this]
/-- when two factors do not fit any more -/
theorem sp_stop {p n f : Nat} {a : Nat → Nat} (hp : p = 2 ∨ p = 3 ∨ p = 5 ∨ p = 7) (hn : 1 ≤ n) (hn2 : n < 64) (hf : 64 ≤ n + 1 + f) (ms : List Nat) (hms : okL p n ms) (hnd : ms.Nodup) (ha : ∀ k, k < 64 → a k < p) (h0 : 0 ≤ deg a) (hl : lowf p n a)
 (hcov : ∀ g, irr p g n → dv p (lz g) (lz a) → vl p g (n + 1) ∈ ms) (hlt : deg a < 2 * (n : Int)) : (foR p ms a).1 ++ run p f (n + 1) (foR p ms a).2 = finL p a := by
 by_cases hz : deg a ≤ 0
 · have hno := foR_none hp hn2 ms a hms ha (fun N hN h => by
    have := dv_deg ha (mon_ofN (p := p) (by omega) hn2 (hms N hN)) h h0
    omega)
   rw [hno, run_z hz, finL_z hz]; rfl
 · obtain ⟨g, d, hg, hd, hga, hnd2⟩ := left_irr hp ha (by omega) hlt hl
   rw [finL_own hp ha hg hd hga]
   by_cases e : n = d
   · subst e
     obtain ⟨o1, o2⟩ := foR_own hp hn hn2 hg ms a hms hnd ha hd hga (hcov g hg hga) hl
     rw [o1, run_z (by omega)]; rfl
   · obtain ⟨d6, _, _⟩ := deg_top hd
     have hno := foR_none hp hn2 ms a hms ha (fun N hN h => by
      have hi := mon_div_irr hp hn hn2 hl (hms N hN) h
      obtain ⟨q1, q2⟩ := quo_exact hp ha (fun k _ => hg.2.2.1 k) hg.2.1 h0 hga
      rcases irr_mul hp hi (fin_lz _) (fin_lz _) ((dv_congr q1).1 h) with h4 | h4
      · have := dv_deg (g := quoP p a g) (fun k _ => quoP_lt (by omega) k) hi.2.1 h4 (by omega)
        omega
      · exact e (irr_same hi hg h4).1)
     rw [hno, run_own hp hg f (n + 1) a (by omega) (by omega) (by omega) ha hd hga]; rfl
theorem spI_full {p n : Nat} (hp : p = 2 ∨ p = 3 ∨ p = 5 ∨ p = 7) : ∀ (ms : List Nat) (a : Nat → Nat), 2 * (n : Int) ≤ deg (spI p n ms a).2 → spI p n ms a = foR p ms a
 | [], _, _ => rfl
 | N :: ms, a, h => by
  by_cases hc : 2 * (n : Int) ≤ deg a
  · rw [spI, if_pos hc] at h ⊢
    have := spI_full hp ms _ h
    rw [foR, this]
  · rw [spI, if_neg hc] at h
    exact absurd h hc
theorem spI_eq {p n f : Nat} (hp : p = 2 ∨ p = 3 ∨ p = 5 ∨ p = 7) (hn : 1 ≤ n) (hn2 : n < 64) (hf : 64 ≤ n + 1 + f) : ∀ (ms : List Nat) (a : Nat → Nat), okL p n ms → ms.Nodup → (∀ k, k < 64 → a k < p) → 0 ≤ deg a → lowf p n a → (∀ g, irr p g n → dv p (lz g) (lz a) → vl p g (n + 1) ∈ ms) →
 (foR p ms a).1 ++ run p f (n + 1) (foR p ms a).2 = (spI p n ms a).1 ++ (if 2 * (n : Int) ≤ deg (spI p n ms a).2 then run p f (n + 1) (spI p n ms a).2 else finL p (spI p n ms a).2)
 | [], a, hms, hnd, ha, h0, hl, hcov => by
  by_cases hc : 2 * (n : Int) ≤ deg a
  · show [] ++ run p f (n + 1) a = [] ++ (if 2 * (n : Int) ≤ deg a then _ else _)
    rw [if_pos hc]; rfl
  · have := sp_stop hp hn hn2 hf [] hms hnd ha h0 hl hcov (by omega)
    rw [this]
    show finL p a = [] ++ (if 2 * (n : Int) ≤ deg a then _ else finL p a)
    rw [if_neg hc]; rfl
 | N :: ms, a, hms, hnd, ha, h0, hl, hcov => by
  by_cases hc : 2 * (n : Int) ≤ deg a
  · rw [spI, if_pos hc, foR]
    have hN := hms N (by simp)
    have hlt : ∀ k, ofN p N k < p := ofN_lt (by omega) N
    have hmN := mon_ofN (p := p) (by omega) hn2 hN
    have hms' : okL p n ms := fun M hM => hms M (by simp [hM])
    rw [List.nodup_cons] at hnd
    simp only [List.append_assoc]
    congr 1
    by_cases hd : dv p (lz (ofN p N)) (lz a)
    · have hi := mon_div_irr hp hn hn2 hl hN hd
      obtain ⟨r1, r2, r3, r4, r5, r6, r7⟩ := dvo_spec hp hi 64 a ha h0 (by have := zdb a; omega)
      refine spI_eq hp hn hn2 hf ms _ hms' hnd.2 r1 r2 (lowf_dv r5 hl) (fun g hg hga => ?_)
      rcases List.mem_cons.1 (hcov g hg (dv_trans hga r5)) with h | h
      · exfalso
        have hv := (mon_num (p := p) (by omega) hg.2.2.1 hg.2.1).2
        rw [h] at hv
        rw [← lz_congr hv] at hga
        exact r4 hga
      · exact h
    · rw [dvo_no hp ha (fun k _ => hlt k) (by rw [hmN.1]; omega) hd 64]
      refine spI_eq hp hn hn2 hf ms a hms' hnd.2 ha h0 hl (fun g hg hga => ?_)
      rcases List.mem_cons.1 (hcov g hg hga) with h | h
      · exfalso
        have hv := (mon_num (p := p) (by omega) hg.2.2.1 hg.2.1).2
        rw [h] at hv
        rw [← lz_congr hv] at hga
        exact hd hga
      · exact h
  · have := sp_stop hp hn hn2 hf (N :: ms) hms hnd ha h0 hl hcov (by omega)
    rw [this, spI, if_neg hc]
    show finL p a = [] ++ (if 2 * (n : Int) ≤ deg a then _ else finL p a)
    rw [if_neg hc]; rfl
theorem cov_all {p n : Nat} (hp : 2 ≤ p) (a : Nat → Nat) : ∀ g, irr p g n → dv p (lz g) (lz a) → vl p g (n + 1) ∈ monL p n := fun g hg _ => (mon_num hp hg.2.2.1 hg.2.1).1
theorem spO_eq {p : Nat} (hp : p = 2 ∨ p = 3 ∨ p = 5 ∨ p = 7) : ∀ (f n : Nat) (a : Nat → Nat), 1 ≤ n → 64 ≤ n + f → (∀ k, k < 64 → a k < p) → 0 ≤ deg a → lowf p n a → run p f n a = (spO p f n a).1 ++ finL p (spO p f n a).2
 | 0, n, a, hn, hf, ha, h0, hl => by
  have hz : deg a ≤ 0 := by
   by_cases h : deg a ≤ 0
   · exact h
   · have := low_deg hp ha (by omega) hl
     have := zdb a
     omega
  show [] = [] ++ finL p a
  rw [finL_z hz]; rfl
 | f + 1, n, a, hn, hf, ha, h0, hl => by
  have nd : (monL p n).Nodup := by unfold monL; exact List.nodup_range'
  by_cases hz : deg a ≤ 0
  · rw [run_z hz, spO, if_neg (by omega)]
    show [] = [] ++ finL p a
    rw [finL_z hz]; rfl
  · have hlow := low_deg hp ha (by omega) hl
    have hn2 : n < 64 := by have := zdb a; omega
    rw [run_s hz]
    by_cases hc : 2 * (n : Int) ≤ deg a
    · rw [spI_eq hp hn hn2 (by omega) (monL p n) a (fun _ h => h) nd ha h0 hl (cov_all (by omega) a), spO, if_pos hc]
      show _ = ((spI p n (monL p n) a).1 ++ (spO p f (n + 1) (spI p n (monL p n) a).2).1) ++ finL p (spO p f (n + 1) (spI p n (monL p n) a).2).2
      rw [List.append_assoc]
      congr 1
      by_cases h2 : 2 * (n : Int) ≤ deg (spI p n (monL p n) a).2
      · rw [if_pos h2]
        have hfull := spI_full hp (monL p n) a h2
        obtain ⟨s1, s2, s3, s4, s5⟩ := foR_spec hp hn hn2 (monL p n) a (fun _ h => h) ha h0 hl
        rw [hfull]
        exact spO_eq hp f (n + 1) _ (by omega) (by omega) s1 s2 (lowf_next (by omega) hl s4 s5)
      · rw [if_neg h2]
        cases f with
        | zero => rfl
        | succ f =>
         rw [spO, if_neg (by push_cast; omega)]; rfl
    · rw [sp_stop hp hn hn2 (by omega) (monL p n) (fun _ h => h) nd ha h0 hl (cov_all (by omega) a) (by omega), spO, if_neg hc]; rfl
/-- the least factor -/
theorem irr_half {p n : Nat} {m : Nat → Nat} (hp : p = 2 ∨ p = 3 ∨ p = 5 ∨ p = 7) (hm : ∀ k, m k < p) (hn : 1 ≤ n) (hmon : mon m n) (h : ¬ irr p m n) : ∃ g j, irr p g j ∧ dv p (lz g) (lz m) ∧ 2 * j ≤ n := by
 apply Classical.byContradiction
 intro hno
 obtain ⟨n6, _, _⟩ := deg_top hmon.1
 have h0 : 1 ≤ deg m := by rw [hmon.1]; omega
 -- all factors are of more than half the degree
 have hl : lowf p (n / 2 + 1) m := by
  intro g j hg hgm
  by_cases hlt : n / 2 + 1 ≤ j
  · exact hlt
  · exact absurd ⟨g, j, hg, hgm, by omega⟩ hno
 obtain ⟨g, d, hg, hd, hga, _⟩ := left_irr hp (fun k _ => hm k) h0 (by rw [hmon.1]; omega) hl
 have e : d = n := by have := hmon.1; omega
 subst e
 exact h (irr_congr (mon_same (fun k _ => hg.2.2.1 k) (fun k _ => hm k) hg.2.1 hmon hga) hm hg)
theorem irr_test {p n : Nat} {m : Nat → Nat} (hp : p = 2 ∨ p = 3 ∨ p = 5 ∨ p = 7) (hm : ∀ k, m k < p) (hn : 1 ≤ n) (hmon : mon m n) (C : Nat → Nat → Nat) (hC : ∀ j, 1 ≤ j → 2 * j ≤ n → (∀ k, C j k < p) ∧ (∃ d, mon (C j) d) ∧ ∀ c, dv p c (lz (C j)) ↔ (dv p c (lz m) ∧ dv p c (FS p j))) :
 irr p m n ↔ ∀ j, 1 ≤ j → 2 * j ≤ n → deg (C j) = 0 := by
 constructor
 · intro hi j h1 h2
   obtain ⟨c1, ⟨d, c2⟩, c3⟩ := hC j h1 h2
   obtain ⟨x1, x2⟩ := (c3 _).1 (dv_self _)
   rcases hi.2.2.2 _ d c1 c2 x1 with h | h
   · rw [c2.1, h]; rfl
   · exfalso
     have h3 := dv_deg (fun k _ => hm k) c2 x1 (by rw [hmon.1]; omega)
     have e : d = n := by have := hmon.1; omega
     subst e
     have hs := mon_same (fun k _ => c1 k) (fun k _ => hm k) c2 hmon x1
     rw [lz_congr hs] at x2
     have := (irr_T hp hi).2 j h1 (dv_FS.1 x2)
     omega
 · intro h
   apply Classical.byContradiction
   intro hno
   obtain ⟨g, j, hg, hgm, hj⟩ := irr_half hp hm hn hmon hno
   have h1 := hg.1
   obtain ⟨c1, ⟨d, c2⟩, c3⟩ := hC j h1 hj
   have hx := (c3 _).2 ⟨hgm, dv_FS.2 (irr_T hp hg).1⟩
   have := dv_deg (fun k _ => c1 k) hg.2.1 hx (by rw [c2.1]; omega)
   rw [h j h1 hj] at this
   omega
/-- the first factor is the polynomial itself if it is irreducible, and only then -/
theorem head_irr {p d : Nat} {m : Nat → Nat} (hp : p = 2 ∨ p = 3 ∨ p = 5 ∨ p = 7) (hm : ∀ k, m k < p) (hd : 1 ≤ d) (hmon : mon m d) : ∃ x l, run p 64 1 m = x :: l ∧ ((∀ k, k < 64 → ofN p x.1 k = m k) ↔ irr p m d) := by
 obtain ⟨d6, _, _⟩ := deg_top hmon.1
 by_cases hi : irr p m d
 · refine ⟨_, _, run_own hp hi 64 1 m (Nat.le_refl _) hd (by omega) (fun k _ => hm k) hmon.1 (dv_self _), fun _ => hi, fun _ => (mon_num (p := p) (by omega) hm hmon).2⟩
 · have hne : run p 64 1 m ≠ [] := by
    intro h
    rw [spO_eq hp 64 1 m (Nat.le_refl _) (by omega) (fun k _ => hm k) (by rw [hmon.1]; omega) (lowf_one m)] at h
    obtain ⟨g, j, hg, hgm, hj⟩ := irr_half hp hm hd hmon hi
    have key : ∀ f n a, 1 ≤ n → 64 ≤ n + f → (∀ k, k < 64 → a k < p) → 1 ≤ deg a → lowf p n a → run p f n a ≠ [] := by
     intro f
     induction f with
     | zero => intro n a hn hf ha h1 hl; have := low_deg hp ha h1 hl; have := zdb a; omega
     | succ f ih =>
      intro n a hn hf ha h1 hl
      have hlow := low_deg hp ha h1 hl
      have hn2 : n < 64 := by have := zdb a; omega
      rw [run_s (by omega)]
      intro he
      obtain ⟨e1, e2⟩ := List.append_eq_nil_iff.1 he
      obtain ⟨s1, s2, s3, s4, s5⟩ := foR_spec hp hn hn2 (monL p n) a (fun _ h => h) ha (by omega) hl
      by_cases h2 : 1 ≤ deg (foR p (monL p n) a).2
      · exact ih (n + 1) _ (by omega) (by omega) s1 h2 (lowf_next (by omega) hl s4 s5) e2
      · -- nothing was told, so nothing was taken away
        have nothing : ∀ (ms : List Nat) (b : Nat → Nat), okL p n ms → (∀ k, k < 64 → b k < p) → 0 ≤ deg b → lowf p n b → (foR p ms b).1 = [] → (foR p ms b).2 = b := by
         intro ms
         induction ms with
         | nil => intro b _ _ _ _ _; rfl
         | cons N ms ih2 =>
          intro b hms hb h0 hlb he
          have hN := hms N (by simp)
          have hmN := mon_ofN (p := p) (by omega) hn2 hN
          rw [foR] at he ⊢
          obtain ⟨x1, x2⟩ := List.append_eq_nil_iff.1 he
          by_cases hd : dv p (lz (ofN p N)) (lz b)
          · exfalso
            have hi := mon_div_irr hp hn hn2 hlb hN hd
            obtain ⟨_, _, _, _, _, r6, _⟩ := dvo_spec hp hi 64 b hb h0 (by have := zdb b; omega)
            rw [if_pos (r6.1 hd)] at x1
            cases x1
          · rw [dvo_no hp hb (fun k _ => ofN_lt (by omega) N k) (by rw [hmN.1]; omega) hd 64] at x2 ⊢
            exact ih2 b (fun M hM => hms M (by simp [hM])) hb h0 hlb x2
        rw [nothing (monL p n) a (fun _ h => h) ha (by omega) hl e1] at h2
        exact h2 h1
    rw [← spO_eq hp 64 1 m (Nat.le_refl _) (by omega) (fun k _ => hm k) (by rw [hmon.1]; omega) (lowf_one m)] at h
    exact key 64 1 m (Nat.le_refl _) (by omega) (fun k _ => hm k) (by rw [hmon.1]; omega) (lowf_one m) h
   obtain ⟨x, l, hx⟩ := List.exists_cons_of_ne_nil hne
   refine ⟨x, l, hx, fun h => ?_, fun h => absurd h hi⟩
   obtain ⟨j, j1, j2, j3, j4, j5, j6, j7⟩ := run_mem hp 64 1 m (Nat.le_refl _) (fun k _ => hm k) (by rw [hmon.1]; omega) (lowf_one m) x (by rw [hx]; simp)
   have hmj := mon_ofN (p := p) (by omega) j2 j3
   have e : j = d := by
    have := deg_congr h
    rw [hmj.1, hmon.1] at this
    omega
   subst e
   exact irr_congr h hm j4
end Go.Proofs.Ytelgefgphhebnaa
set_option linter.unusedVariables false
namespace Go.Proofs.Ytelgefgphhebnaa
attribute [local irreducible] deg invN quoP resP
theorem one_lz : lz oneP = oneS := by
 funext k; unfold lz oneS
 by_cases hk : k < 64
 · rw [cut_in _ hk]; unfold oneP; split <;> rfl
 · rw [zcz _ (by omega), if_neg (by omega)]; rfl
/-- the same residue -/
theorem res_rm {p : Nat} {a m : Nat → Nat} (hp : p = 2 ∨ p = 3 ∨ p = 5 ∨ p = 7) (ha : ∀ k, k < 64 → a k < p) (hm : ∀ k, k < 64 → m k < p) (h0 : 0 ≤ deg m) : rm p (lz m) (lz a) (lz (resP p a m)) := by
 refine ⟨_, fin_lz (quoP p a m), fun k => ?_⟩
 have := divP hp ha hm h0 k
 unfold az at this
 unfold sz
 rwa [show lz a k - lz (resP p a m) k - mz (lz (quoP p a m)) (lz m) k = lz a k - (mz (lz (quoP p a m)) (lz m) k + lz (resP p a m) k) by omega]
end Go.Proofs.Ytelgefgphhebnaa
set_option linter.unusedVariables false
namespace Go.Proofs.Ytelgefgphhebnaa
attribute [local irreducible] deg invN quoP resP
/-- the rest of the product -/
def mmP (p : Nat) (a b m : Nat → Nat) : Nat → Nat := resW p (invN p (m (deg m).toNat)) (deg m).toNat m (prd p a b)
theorem mmP_at {p d : Nat} {a b m : Nat → Nat} (h : deg m = (d : Int)) : mmP p a b m = resW p (invN p (m d)) d m (prd p a b) := by unfold mmP; rw [h]; rfl
theorem mmP_lt {p : Nat} {a b m : Nat → Nat} (hp : 0 < p) : ∀ k, k < 128 → mmP p a b m k < p := by
 intro k hk
 unfold mmP resW
 exact dS_lt (N := 128) hp (fun j _ => prd_lt hp j) _ k hk
theorem mmP_out {p d : Nat} {a b m : Nat → Nat} (hp : p = 2 ∨ p = 3 ∨ p = 5 ∨ p = 7) (hm : ∀ k, k < 64 → m k < p) (hd : deg m = (d : Int)) {k : Nat} (h1 : d ≤ k) (h2 : k < 128) : mmP p a b m k = 0 := by
 have hp0 : 0 < p := by omega
 obtain ⟨m1, m2, m3⟩ := deg_top hd
 rw [mmP_at hd]
 unfold resW
 exact dS_top hp0 (fun j _ => prd_lt hp0 j) (invF hp m2 (hm d m1)).2.2.1 _ (by omega) k (by omega) h2
theorem mmP_deg {p : Nat} {a b m : Nat → Nat} (hp : p = 2 ∨ p = 3 ∨ p = 5 ∨ p = 7) (hm : ∀ k, k < 64 → m k < p) (h0 : 0 ≤ deg m) : deg (mmP p a b m) < deg m := by
 obtain ⟨d, hd⟩ : ∃ d : Nat, deg m = (d : Int) := ⟨(deg m).toNat, by omega⟩
 have := deg_le (f := mmP p a b m) (d := (d : Int) - 1) (by omega) (fun k hk hk2 => mmP_out hp hm hd (by omega) (by omega))
 omega
theorem mz_far {a b : Nat → Nat} {k : Nat} (hk : 127 ≤ k) : mz (lz a) (lz b) k = 0 := by
 refine cs_zero _ (fun i _ => ?_)
 unfold lz
 by_cases h : i < 64
 · rw [zcz b (by omega)]; simp
 · rw [zcz a (by omega)]; simp
theorem prd_lw (p : Nat) (a b : Nat → Nat) : cg p (lw (prd p a b)) (mz (lz a) (lz b)) := by
 intro k
 unfold lw
 by_cases h : k < 128
 · rw [if_pos h]; exact prd_mz p a b k
 · rw [if_neg h, mz_far (by omega)]; exact ⟨0, by omega⟩
theorem mmP_rm {p : Nat} {a b m : Nat → Nat} (hp : p = 2 ∨ p = 3 ∨ p = 5 ∨ p = 7) (hm : ∀ k, k < 64 → m k < p) (h0 : 0 ≤ deg m) : rm p (lz m) (mz (lz a) (lz b)) (lz (mmP p a b m)) := by
 have hp0 : 0 < p := by omega
 obtain ⟨d, hd⟩ : ∃ d : Nat, deg m = (d : Int) := ⟨(deg m).toNat, by omega⟩
 have h := rmW (p := p) (inv := invN p (m d)) (a := prd p a b) hp0 hd
 rw [← mmP_at hd] at h
 have e : lw (mmP p a b m) = lz (mmP p a b m) := by
  funext k; unfold lw lz
  obtain ⟨d6, _, _⟩ := deg_top hd
  by_cases hk : k < 64
  · rw [cut_in _ hk, if_pos (by omega)]
  · rw [zcz _ (by omega)]
    by_cases hk2 : k < 128
    · rw [if_pos hk2, mmP_out hp hm hd (by omega) hk2]
    · rw [if_neg hk2]; rfl
 rw [e] at h
 exact rm_trans (rm_symm (rm_of_cg (prd_lw p a b))) h
/-- T times a, less its top times m -/
def upF (p : Nat) (a m : Nat → Nat) : Nat := a ((deg m).toNat - 1) * invN p (m (deg m).toNat) % p
def shA (a : Nat → Nat) (n : Nat) : Nat → Nat := fun k => if 1 ≤ k ∧ k < n then a (k - 1) else 0
def upP (p : Nat) (a m : Nat → Nat) : Nat → Nat := fun k => if (k : Int) < deg m then (shA a (deg m).toNat k + (p - upF p a m) * m k) % p else 0
theorem upP_lt {p : Nat} {a m : Nat → Nat} (hp : 0 < p) (k : Nat) : upP p a m k < p := by
 unfold upP; split
 · exact Nat.mod_lt _ hp
 · exact hp
theorem upP_rm {p : Nat} {a m : Nat → Nat} (hp : p = 2 ∨ p = 3 ∨ p = 5 ∨ p = 7) (ha : ∀ k, k < 64 → a k < p) (hm : ∀ k, k < 64 → m k < p) (h0 : 0 ≤ deg m) (hlt : deg a < deg m) : rm p (lz m) (mz TS (lz a)) (lz (upP p a m)) := by
 have hp0 : 0 < p := by omega
 obtain ⟨d, hd⟩ : ∃ d : Nat, deg m = (d : Int) := ⟨(deg m).toNat, by omega⟩
 obtain ⟨d6, m2, m3⟩ := deg_top hd
 obtain ⟨_, _, i3, _⟩ := invF hp m2 (hm d d6)
 obtain ⟨f, hf⟩ : ∃ f, f = upF p a m := ⟨_, rfl⟩
 have hfp : f < p := by rw [hf]; exact Nat.mod_lt _ hp0
 have hfd : f = a (d - 1) * invN p (m d) % p := by rw [hf]; unfold upF; rw [hd]; rfl
 refine ⟨fun i => if i = 0 then (f : Int) else 0, fin_mono _ 0, fun k => ?_⟩
 rw [mz_mono, if_pos (Nat.zero_le _), Nat.sub_zero, mz_TS]
 have hup : upP p a m k = if (k : Int) < deg m then (shA a (deg m).toNat k + (p - f) * m k) % p else 0 := by rw [hf]; rfl
 have hdt : (deg m).toNat = d := by rw [hd]; rfl
 rw [hdt] at hup
 show (p : Int) ∣ (if k = 0 then 0 else lz a (k - 1)) - lz (upP p a m) k - (f : Int) * lz m k
 by_cases hk : k < d
 · have e1 : lz (upP p a m) k = (((shA a d k + (p - f) * m k) % p : Nat) : Int) := by
    unfold lz; rw [cut_in _ (by omega), hup, if_pos (by omega)]
   have e2 : lz m k = (m k : Int) := by unfold lz; rw [cut_in _ (by omega)]
   have e3 : (if k = 0 then (0 : Int) else lz a (k - 1)) = (shA a d k : Int) := by
    unfold shA
    by_cases h : k = 0
    · rw [if_pos h, if_neg (by omega)]; rfl
    · rw [if_neg h, if_pos (by omega)]; unfold lz; rw [cut_in _ (by omega)]
   rw [e1, e2, e3]
   have := take_dvd (p := p) (A := shA a d k) (c := f) (b := m k) (by omega)
   rwa [show (shA a d k : Int) - (((shA a d k + (p - f) * m k) % p : Nat) : Int) - (f : Int) * (m k : Int) = (shA a d k : Int) - ((f : Int) * (m k : Int) + (((shA a d k + (p - f) * m k) % p : Nat) : Int)) by omega]
 · have e1 : lz (upP p a m) k = 0 := by
    unfold lz
    by_cases h : k < 64
    · rw [cut_in _ h, hup, if_neg (by omega)]; rfl
    · rw [zcz _ (by omega)]; rfl
   rw [e1]
   by_cases e : k = d
   · subst e
     have e2 : lz m k = (m k : Int) := by unfold lz; rw [cut_in _ d6]
     rw [e2]
     by_cases h : k = 0
     · rw [if_pos h]
       have : a (k - 1) = 0 := by rw [h]; exact zero_above (f := a) (k := 0) (by omega) (by omega)
       rw [this, Nat.zero_mul, Nat.zero_mod] at hfd
       rw [hfd]; exact ⟨0, by simp⟩
     · rw [if_neg h]
       have e3 : lz a (k - 1) = (a (k - 1) : Int) := by unfold lz; rw [cut_in _ (by omega)]
       rw [e3]
       have h1 : (f * m k) % p = a (k - 1) := by
        rw [hfd, Nat.mod_mul_mod, Nat.mul_assoc, Nat.mul_mod, i3, Nat.mul_one, Nat.mod_mod, Nat.mod_eq_of_lt (ha _ (by omega))]
       have := mod_dvd p (f * m k)
       rw [h1, Int.natCast_mul] at this
       rwa [Int.sub_zero]
   · have e2 : lz m k = 0 := lz_above hd (by omega)
     have e3 : (if k = 0 then (0 : Int) else lz a (k - 1)) = 0 := by
      rw [if_neg (by omega)]
      unfold lz
      by_cases h : k - 1 < 64
      · rw [cut_in _ h, zero_above (f := a) (k := k - 1) (by omega) h]; rfl
      · rw [zcz _ (by omega)]; rfl
     rw [e2, e3]; exact ⟨0, by simp⟩
theorem addK_cg {p : Nat} {f g : Nat → Nat} {c : Int} (hp : 0 < p) : cg p (lz (addK p f g c)) (az (lz f) (cz c (lz g))) := by
 intro k
 show (p : Int) ∣ ((cut (addK p f g c) k : Nat) : Int) - (((cut f k : Nat) : Int) + c * ((cut g k : Nat) : Int))
 by_cases hk : k < 64
 · rw [cut_in _ hk, cut_in _ hk, cut_in _ hk]
   unfold addK
   have h1 : 0 ≤ ((f k : Int) + c * (g k : Int)) % (p : Int) := Int.emod_nonneg _ (by omega)
   rw [Int.toNat_of_nonneg h1]
   have := Int.dvd_self_sub_emod (x := (f k : Int) + c * (g k : Int)) (m := (p : Int))
   have h2 := Int.dvd_neg.2 this
   rwa [Int.neg_sub] at h2
 · rw [zcz _ (by omega), zcz _ (by omega), zcz _ (by omega)]; exact ⟨0, by simp⟩
theorem addK_lt {p : Nat} {f g : Nat → Nat} {c : Int} (hp : 0 < p) (k : Nat) : addK p f g c k < p := by
 unfold addK
 have h1 : 0 ≤ ((f k : Int) + c * (g k : Int)) % (p : Int) := Int.emod_nonneg _ (by omega)
 have h2 := Int.emod_lt_of_pos ((f k : Int) + c * (g k : Int)) (b := (p : Int)) (by omega)
 omega
/-- the model's product, behind j steps from the degree n downwards -/
def hmR (p : Nat) (a b m : Nat → Nat) (n : Nat) : Nat → Nat → Nat
 | 0 => fun _ => 0
 | j + 1 => resP p (addK p (upP p (hmR p a b m n j) m) a (b (n - j) : Int)) m
theorem hmR_z (p : Nat) (a b m : Nat → Nat) (n : Nat) : hmR p a b m n 0 = fun _ => 0 := rfl
theorem hmR_s (p : Nat) (a b m : Nat → Nat) (n j : Nat) : hmR p a b m n (j + 1) = resP p (addK p (upP p (hmR p a b m n j) m) a (b (n - j) : Int)) m := rfl
def tlS (b : Nat → Nat) (n j : Nat) : Nat → Int := fun k => if k < j then (b (n + 1 - j + k) : Int) else 0
theorem fin_tlS (b : Nat → Nat) (n j : Nat) : fin (tlS b n j) := ⟨j, fun k hk => by unfold tlS; rw [if_neg (by omega)]⟩
theorem hmR_spec {p n : Nat} {a b m : Nat → Nat} (hp : p = 2 ∨ p = 3 ∨ p = 5 ∨ p = 7) (ha : ∀ k, k < 64 → a k < p) (hm : ∀ k, k < 64 → m k < p) (h0 : 0 ≤ deg m) : ∀ j, j ≤ n + 1 →
 (∀ k, k < 64 → hmR p a b m n j k < p) ∧ deg (hmR p a b m n j) < deg m ∧ rm p (lz m) (mz (lz a) (tlS b n j)) (lz (hmR p a b m n j))
 | 0, _ => by
  have hp0 : 0 < p := by omega
  have hz : deg (fun _ => 0) < 0 := deg_neg_iff.2 (fun _ _ => rfl)
  refine ⟨fun _ _ => hp0, by rw [hmR_z]; omega, ?_⟩
  have e : tlS b n 0 = zS := by funext k; unfold tlS zS; rw [if_neg (by omega)]
  rw [e, mz_zS, hmR_z, lz_neg hz]
  exact rm_refl _ _ _
 | j + 1, hj => by
  have hp0 : 0 < p := by omega
  obtain ⟨i1, i2, i3⟩ := hmR_spec (n := n) (b := b) hp ha hm h0 j (by omega)
  have hadd : ∀ k, k < 64 → addK p (upP p (hmR p a b m n j) m) a (b (n - j) : Int) k < p := fun k _ => addK_lt hp0 k
  rw [hmR_s]
  refine ⟨fun k hk => resP_lt hp0 hadd k hk, (resP_deg hp hadd hm h0).1, ?_⟩
  refine rm_trans ?_ (res_rm hp hadd hm h0)
  refine rm_trans ?_ (rm_symm (rm_of_cg (addK_cg hp0)))
  have e : tlS b n (j + 1) = az (mz TS (tlS b n j)) (cz (b (n - j) : Int) oneS) := by
   rw [mz_TS]
   funext k
   unfold tlS az cz oneS
   cases k with
   | zero => simp
   | succ k =>
    simp
    by_cases h : k < j
    · rw [if_pos h, if_pos h]
      congr 1
      congr 1
      omega
    · rw [if_neg h, if_neg h]
  rw [e, mz_az2]
  refine rm_az ?_ ?_
  · rw [mz_comm TS, ← mz_assoc, mz_comm _ TS]
    refine rm_trans (rm_mz2 (fin_mz (fin_lz a) (fin_tlS b n j)) fin_TS (rm_refl _ _ _) i3) (upP_rm hp i1 hm h0 i2)
  · rw [mz_comm, mz_cz]
    have h1 : mz oneS (lz a) = lz a := mz_one _
    rw [h1]; exact rm_refl _ _ _
theorem hmR_mmP {p n : Nat} {a b m : Nat → Nat} (hp : p = 2 ∨ p = 3 ∨ p = 5 ∨ p = 7) (ha : ∀ k, k < 64 → a k < p) (hm : ∀ k, k < 64 → m k < p) (h0 : 0 ≤ deg m) (hb : deg b + 1 = (n : Int)) : ∀ k, k < 64 → hmR p a b m (n - 1) n k = mmP p a b m k := by
 have hp0 : 0 < p := by omega
 obtain ⟨b1, b2⟩ := zdb b
 have key : (∀ k, k < 64 → hmR p a b m (n - 1) n k < p) ∧ deg (hmR p a b m (n - 1) n) < deg m ∧ rm p (lz m) (mz (lz a) (tlS b (n - 1) n)) (lz (hmR p a b m (n - 1) n)) := hmR_spec hp ha hm h0 n (by omega)
 obtain ⟨i1, i2, i3⟩ := key
 have e : tlS b (n - 1) n = lz b := by
  funext k; unfold tlS lz
  by_cases h : k < n
  · rw [if_pos h, cut_in b (by omega)]; congr 2; omega
  · rw [if_neg h]
    by_cases hk : k < 64
    · rw [cut_in b hk, zero_above (f := b) (k := k) (by omega) hk]; rfl
    · rw [zcz b (by omega)]; rfl
 rw [e] at i3
 obtain ⟨d, hd⟩ : ∃ d : Nat, deg m = (d : Int) := ⟨(deg m).toNat, by omega⟩
 obtain ⟨d6, m2, m3⟩ := deg_top hd
 obtain ⟨_, _, iv3, _⟩ := invF hp m2 (hm d d6)
 have low : ∀ (f : Nat → Nat), deg f < (d : Int) → ∀ k, d ≤ k → lz f k = 0 := by
  intro f hf k hk
  unfold lz
  by_cases hk2 : k < 64
  · rw [cut_in _ hk2, zero_above (f := f) (k := k) (by omega) hk2]; rfl
  · rw [zcz _ (by omega)]; rfl
 have hu := rm_unique (d := d) (v := (invN p (m d) : Int)) (m := lz m) (f := lz (hmR p a b m (n - 1) n)) (g := lz (mmP p a b m)) (p := p) (by
  unfold lz; rw [cut_in m d6]
  have := mod_dvd p (invN p (m d) * m d)
  rw [iv3] at this
  obtain ⟨x, hx⟩ := this
  rw [Int.natCast_mul, Int.mul_comm] at hx
  exact ⟨-x, by rw [Int.mul_neg]; omega⟩) (fun k hk => lz_above hd hk) (fun k hk => by
  rw [low _ (by omega) k hk, low _ (by have := mmP_deg (a := a) (b := b) hp hm h0; omega) k hk]; exact ⟨0, by omega⟩) (rm_trans (rm_symm i3) (mmP_rm hp hm h0))
 exact lz_inj i1 (fun k hk => mmP_lt hp0 k (by omega)) hu
end Go.Proofs.Ytelgefgphhebnaa
end
section
namespace Go.Proofs.Ytelgefgphhebnaa
open Go.RowKit
set_option linter.unusedVariables false
set_option linter.unusedSimpArgs false
attribute [local irreducible] deg invN dS qS stp stpr quoP resP oneP
set_option maxRecDepth 100000 in
set_option maxHeartbeats 3000000 in
theorem l01Bezout_any (p : Nat) (A B : Nat → Nat) (w : World) (hp : p = 2 ∨ p = 3 ∨ p = 5 ∨ p = 7) (hA : ∀ k, k < 64 → A k < p) (hB : ∀ k, k < 64 → B k < p) (hd : 0 ≤ deg A ∨ 0 ≤ deg B) :
 Calls Try.prog 147 #[.int .i64 (p : Int), .agg (zb 64 A), .agg (zb 64 B)] w fun e w' => e = .returned (.tuple #[.agg (zb 64 (bzD p A B)), .agg (zb 64 (bzU p A B)), .agg (zb 64 (bzW p A B))]) ∧ Below w.heap.size w w' := by
 have p2 : 2 ≤ p := by omega
 have p7 : p ≤ 7 := by omega
 have p0 : 0 < p := by omega
 have HI0 := Lib.hid (bzI_start p2 hA hB hd)
 clear hA hB hd
 go_enter Try.func147, Try.ntmps147
 go_upto_region 1 with (fail)
 rw [← z64]
 obtain ⟨wo, hwo⟩ : ∃ wo : World, wo = (((((w.alloc (.cells (zb 64 A) 28)).alloc (.cells (zb 64 B) 28)).alloc (.cells (zb 64 fun _ => 0) 28)).alloc (.cells (zb 64 fun _ => 0) 28)).alloc (.cells (zb 64 fun _ => 0) 28)) := ⟨_, rfl⟩
 have b0 : Blk wo (w.heap.size) 64 28 A := by subst hwo; have := (((((Blk.new w 64 28 A).alloc (.cells (zb 64 B) 28)).alloc (.cells (zb 64 fun _ => 0) 28)).alloc (.cells (zb 64 fun _ => 0) 28)).alloc (.cells (zb 64 fun _ => 0) 28)); simpa using this
 have b1 : Blk wo (w.heap.size + 1) 64 28 B := by subst hwo; have := ((((Blk.new (w.alloc (.cells (zb 64 A) 28)) 64 28 B).alloc (.cells (zb 64 fun _ => 0) 28)).alloc (.cells (zb 64 fun _ => 0) 28)).alloc (.cells (zb 64 fun _ => 0) 28)); simpa using this
 have b2 : Blk wo (w.heap.size + 1 + 1) 64 28 (fun _ => 0) := by subst hwo; have := (((Blk.new ((w.alloc (.cells (zb 64 A) 28)).alloc (.cells (zb 64 B) 28)) 64 28 (fun _ => 0)).alloc (.cells (zb 64 fun _ => 0) 28)).alloc (.cells (zb 64 fun _ => 0) 28)); simpa using this
 have b3 : Blk wo (w.heap.size + 1 + 1 + 1) 64 28 (fun _ => 0) := by subst hwo; have := ((Blk.new (((w.alloc (.cells (zb 64 A) 28)).alloc (.cells (zb 64 B) 28)).alloc (.cells (zb 64 fun _ => 0) 28)) 64 28 (fun _ => 0)).alloc (.cells (zb 64 fun _ => 0) 28)); simpa using this
 have b4 : Blk wo (w.heap.size + 1 + 1 + 1 + 1) 64 28 (fun _ => 0) := by subst hwo; have := (Blk.new ((((w.alloc (.cells (zb 64 A) 28)).alloc (.cells (zb 64 B) 28)).alloc (.cells (zb 64 fun _ => 0) 28)).alloc (.cells (zb 64 fun _ => 0) 28)) 64 28 (fun _ => 0)); simpa using this
 have hb : Below w.heap.size w wo := by subst hwo; exact ((((((Below.refl _ _).alloc (Nat.le_refl _) _).alloc (by simp) _).alloc (by simp; omega) _).alloc (by simp; omega) _).alloc (by simp; omega) _)
 rw [← hwo]
 clear hwo
 have ha : Below wo.heap.size wo wo := Below.refl _ _
 have HX := Lib.hid (fun W => new4 W oneP (fun _ => 0) (fun _ => 0) oneP)
 go_wp2_with (first | (go_at_call 108; refine (acc (l01One_any _) (by assumption)).mono ?_; rintro e w1 ⟨rfl, h1, ha⟩) | (rw [← z64]; refine wpList_store_blk rfl 28 (.tmp 9) (.tmp 22) rfl _ 64 oneP rfl rfl 28 _ (HX.out w1).1 Try.size28 ?_) | (refine wpList_store_blk rfl 28 (.tmp 10) (.tmp 23) rfl _ 64 (fun _ => 0) rfl rfl 28 _ (HX.out w1).2.1 Try.size28 ?_) | (refine wpList_store_blk rfl 28 (.tmp 11) (.tmp 24) rfl _ 64 (fun _ => 0) rfl rfl 28 _ (HX.out w1).2.2.1 Try.size28 ?_) | (refine wpList_store_blk rfl 28 (.tmp 12) (.tmp 25) rfl _ 64 oneP rfl rfl 28 _ (HX.out w1).2.2.2.1 Try.size28 ?_))
 obtain ⟨_, _, _, _, f9, f10, f11, f12, hb4⟩ := HX.out w1
 obtain ⟨w4, hw4⟩ : ∃ w4 : World, w4 = ((((((((w1.alloc (.cells (zb 64 fun _ => 0) 28)).alloc (.cells (zb 64 fun _ => 0) 28)).alloc (.cells (zb 64 fun _ => 0) 28)).alloc (.cells (zb 64 fun _ => 0) 28)).setRow (w1.heap.size) (zb 64 oneP)).setRow (w1.heap.size + 1) (zb 64 (fun _ => 0))).setRow (w1.heap.size + 1 + 1) (zb 64 (fun _ => 0))).setRow (w1.heap.size + 1 + 1 + 1) (zb 64 oneP)) := ⟨_, rfl⟩
 rw [← hw4] at f9 f10 f11 f12 hb4 ⊢
 clear hw4 HX
 replace b0 := b0.zw ha
 replace b1 := b1.zw ha
 replace b2 := b2.zw ha
 replace b3 := b3.zw ha
 replace b4 := b4.zw ha
 have hl4 := b4.lt
 replace b0 := b0.zw hb4
 replace b1 := b1.zw hb4
 replace b2 := b2.zw hb4
 replace b3 := b3.zw hb4
 replace b4 := b4.zw hb4
 replace hb := hb.trans (ha.mono hb.size)
 replace hb := hb.trans (hb4.mono hb.size)
 clear ha h1 hb4
 obtain ⟨N, hN⟩ : ∃ N, N = w1.heap.size := ⟨_, rfl⟩
 rw [← hN] at f9 f10 f11 f12 hl4 ⊢
 clear hN
 simp only [Act.put]
 go_loopw [27] (fun i wr => ∃ (k : Nat) (pa pb pu px pv py : Nat → Nat), bzV p A B = bzRun p k pa pb pu px pv py ∧ deg pb + 1 ≤ (k : Int) ∧ bzI p pa pb pu px pv py ∧ Below w.heap.size w wr ∧ Blk wr w.heap.size 64 28 pa ∧ Blk wr (w.heap.size + 1) 64 28 pb ∧ Blk wr (w.heap.size + 1 + 1) 64 28 (fun _ => 0) ∧ Blk wr (w.heap.size + 1 + 1 + 1) 64 28 (fun _ => 0) ∧ Blk wr (w.heap.size + 1 + 1 + 1 + 1) 64 28 (fun _ => 0) ∧ Blk wr N 64 28 pu ∧ Blk wr (N + 1) 64 28 px ∧ Blk wr (N + 1 + 1) 64 28 pv ∧ Blk wr (N + 1 + 1 + 1) 64 28 py) (fun _ wr => degAt wr (w.heap.size + 1))
 case atStart => exact ⟨65, A, B, oneP, fun _ => 0, fun _ => 0, oneP, rfl, by have := zdb B; omega, HI0.out, hb, b0, b1, b2, b3, b4, f9, f10, f11, f12⟩
 case round =>
  clear hb b0 b1 b2 b3 b4 f9 f10 f11 f12
  obtain ⟨k, pa, pb, pu, px, pv, py, hrun, hk, hI, hb, b0, b1, b2, b3, b4, f9, f10, f11, f12⟩ := hrel
  have ⟨ia, ib, iu, ix, iv, iy, d1, d2, d3, d4, d5⟩ := hI
  by_cases hz : deg pb < 0
  · have hV := hrun.trans (bzRun_stop hz)
    obtain ⟨m, hm⟩ : ∃ m : Nat, deg pa = (m : Int) := ⟨(deg pa).toNat, by omega⟩
    obtain ⟨hm6, ham, _⟩ := deg_top hm
    obtain ⟨c, hc⟩ : ∃ c, c = bzC p A B := ⟨_, rfl⟩
    have hci : invN p (pa m) = c := by rw [hc]; unfold bzC; rw [hV]; show invN p (pa m) = invN p (pa (deg pa).toNat); rw [hm]; rfl
    have hcp : c < p := by rw [← hci]; exact (invF hp ham (ia m hm6)).2.1
    have HR := Lib.hid (show bzD p A B = sclP p pa c ∧ bzU p A B = sclP p pu c ∧ bzW p A B = sclP p pv c by
     unfold bzD bzU bzW; rw [← hc, hV]; exact ⟨rfl, rfl, rfl⟩)
    have HS := Lib.hid (show ∀ (f : Nat → Nat), (∀ i, i < 64 → f i < p) → ∀ W, Calls Try.prog 80 #[.int .i64 (p : Int), .agg (zb 64 fun _ => 0), .agg (zb 64 f), .int .i64 (c : Int)] W fun e w' => e = .returned (.agg (zb 64 (sclP p f c))) ∧ Below W.heap.size W w' by
     intro f hf W
     have := l01Add_any p (fun _ => 0) f (c : Int) W p2 p7 (by omega) (by omega) (fun _ _ => p0) hf
     rwa [addK_scl] at this)
    have HM := Lib.hid hm
    have HC := Lib.hid hci
    have HIA := Lib.hid ia; have HIU := Lib.hid iu; have HIV := Lib.hid iv
    have ha : Below wr.heap.size wr wr := Below.refl _ _
    clear hV hrun hI hk ib ix iy d1 d2 d3 d4 d5 hc hci hm
    go_upto_region 14 with (first | (refine zlb rfl 28 (.tmp 5) rfl _ rfl 64 28 _ (b1.below (by assumption) b1.lt) 5 Try.underlying28 Try.size28 ?_) | (refine zlb rfl 28 (.tmp 4) rfl _ rfl 64 28 _ (b0.below (by assumption) b0.lt) 5 Try.underlying28 Try.size28 ?_) | (go_at_call 106; refine (acc (l01Deg_any _ _) (by assumption)).mono ?_; rintro e w5 ⟨rfl, h5, ha⟩; rw [HM.out]; have c0 := (b0.zw ha).cell (i := m) hm6) | (go_at_call 106; refine (acc (l01Deg_any _ _) (by assumption)).mono ?_; rintro e w5 ⟨rfl, h5, ha⟩) | (go_at_call 128; refine (l01Inverse_any p (pa m) _ hp ham (HIA.out m hm6)).mono ?_; rintro e w5 ⟨rfl, rfl⟩; rw [HC.out]))
    replace b0 := b0.zw ha
    replace b2 := b2.zw ha
    replace b3 := b3.zw ha
    replace b4 := b4.zw ha
    replace f9 := f9.zw ha
    replace f11 := f11.zw ha
    replace hb := hb.trans (ha.mono hb.size)
    clear c0 ha h5 b1 f10 f12
    have lt_b0 : (w.heap.size) < w5.heap.size := b0.lt
    have lt_f9 : (N) < w5.heap.size := f9.lt
    have lt_f11 : (N + 1 + 1) < w5.heap.size := f11.lt
    have lt_b2 : (w.heap.size + 1 + 1) < w5.heap.size := b2.lt
    have lt_b3 : (w.heap.size + 1 + 1 + 1) < w5.heap.size := b3.lt
    have lt_b4 : (w.heap.size + 1 + 1 + 1 + 1) < w5.heap.size := b4.lt
    have hbase : w.heap.size ≤ w5.heap.size := hb.size
    refine zq Try.mixed (by kernel_rfl) (by kernel_rfl) (fun v => by (simp only [frL, Act.put, pA, pB, pC, Nat.reduceAdd, Nat.zero_add]; exact rfl))
     (fun L v wx => Below w.heap.size w wx ∧ w5.heap.size ≤ wx.heap.size ∧ Blk wx (w.heap.size) 64 28 (pa) ∧ Blk wx (N) 64 28 (pu) ∧ Blk wx (N + 1 + 1) 64 28 (pv) ∧ (∃ g, Blk wx (w.heap.size + 1 + 1) 64 28 (g)) ∧ (L 15 = false → Blk wx (w.heap.size + 1 + 1) 64 28 (fun _ => 0)) ∧ (L 15 = true → Blk wx (w.heap.size + 1 + 1) 64 28 (sclP p pa c)) ∧ (∃ g, Blk wx (w.heap.size + 1 + 1 + 1) 64 28 (g)) ∧ (L 16 = false → Blk wx (w.heap.size + 1 + 1 + 1) 64 28 (fun _ => 0)) ∧ (L 16 = true → Blk wx (w.heap.size + 1 + 1 + 1) 64 28 (sclP p pu c)) ∧ (∃ g, Blk wx (w.heap.size + 1 + 1 + 1 + 1) 64 28 (g)) ∧ (L 17 = false → Blk wx (w.heap.size + 1 + 1 + 1 + 1) 64 28 (fun _ => 0)) ∧ (L 17 = true → Blk wx (w.heap.size + 1 + 1 + 1 + 1) 64 28 (sclP p pv c)) ∧ (L 0 = true → v 0 = (.int .i64 (p : Int))) ∧ (L 1 = true → v 1 = (.agg (zb 64 (fun _ => 0)))) ∧ (L 2 = true → v 2 = (.agg (zb 64 (pa)))) ∧ (L 3 = true → v 3 = (.int .i64 (c : Int))) ∧ (L 4 = true → v 4 = (.agg (zb 64 (sclP p pa c)))) ∧ (L 5 = true → v 5 = (.int .i64 (p : Int))) ∧ (L 6 = true → v 6 = (.agg (zb 64 (fun _ => 0)))) ∧ (L 7 = true → v 7 = (.agg (zb 64 (pu)))) ∧ (L 8 = true → v 8 = (.int .i64 (c : Int))) ∧ (L 9 = true → v 9 = (.agg (zb 64 (sclP p pu c)))) ∧ (L 10 = true → v 10 = (.int .i64 (p : Int))) ∧ (L 11 = true → v 11 = (.agg (zb 64 (fun _ => 0)))) ∧ (L 12 = true → v 12 = (.agg (zb 64 (pv)))) ∧ (L 13 = true → v 13 = (.int .i64 (c : Int))) ∧ (L 14 = true → v 14 = (.agg (zb 64 (sclP p pv c))))) ?_ ?_ ?_
    · intro v hv0
      exact ⟨hb.drew, Nat.le_refl _, b0.drew, f9.drew, f11.drew, ⟨_, b2.drew⟩, (fun _ => b2.drew), (fun h => by cases h), ⟨_, b3.drew⟩, (fun _ => b3.drew), (fun h => by cases h), ⟨_, b4.drew⟩, (fun _ => b4.drew), (fun h => by cases h), (fun h => by cases h), (fun h => by cases h), (fun h => by cases h), (fun h => by cases h), (fun h => by cases h), (fun h => by cases h), (fun h => by cases h), (fun h => by cases h), (fun h => by cases h), (fun h => by cases h), (fun h => by cases h), (fun h => by cases h), (fun h => by cases h), (fun h => by cases h), (fun h => by cases h)⟩
    · refine (.cons rfl ?_ (.cons rfl ?_ (.cons rfl ?_ (.cons rfl ?_ (.cons rfl ?_ (.cons rfl ?_ (.cons rfl ?_ (.cons rfl ?_ (.cons rfl ?_ (.cons rfl ?_ (.cons rfl ?_ (.cons rfl ?_ (.cons rfl ?_ (.cons rfl ?_ (.cons rfl ?_ (.cons rfl ?_ (.cons rfl ?_ (.cons rfl ?_ (.nil _)))))))))))))))))))
      all_goals intro L v wx hd hn ⟨hB, hz, s0, s1, s2, x3, q3, n3, x4, q4, n4, x5, q5, n5, h0, h1, h2, h3, h4, h5, h6, h7, h8, h9, h10, h11, h12, h13, h14⟩ K hK
      · go_wp2_with fail
        exact hK _ (.int .i64 (p : Int)) _ (by simp only [Act.put, pA, pB, pC ]) ⟨hB, hz, s0, s1, s2, x3, q3, n3, x4, q4, n4, x5, q5, n5, (fun _ => rfl), h1, h2, h3, h4, h5, h6, h7, h8, h9, h10, h11, h12, h13, h14⟩
      · go_wp2_with fail
        rw [← z64]
        exact hK _ (.agg (zb 64 (fun _ => 0))) _ (by simp only [Act.put, pA, pB, pC ]) ⟨hB, hz, s0, s1, s2, x3, q3, n3, x4, q4, n4, x5, q5, n5, h0, (fun _ => rfl), h2, h3, h4, h5, h6, h7, h8, h9, h10, h11, h12, h13, h14⟩
      · refine wp_load_blk 28 _ rfl _ rfl 64 28 _ s0 _ Try.underlying28 Try.size28 ?_
        exact hK _ _ _ rfl ⟨hB, hz, s0, s1, s2, x3, q3, n3, x4, q4, n4, x5, q5, n5, h0, h1, (fun _ => rfl), h3, h4, h5, h6, h7, h8, h9, h10, h11, h12, h13, h14⟩
      · go_wp2_with fail
        exact hK _ (.int .i64 (c : Int)) _ (by simp only [Act.put, pA, pB, pC ]) ⟨hB, hz, s0, s1, s2, x3, q3, n3, x4, q4, n4, x5, q5, n5, h0, h1, h2, (fun _ => rfl), h4, h5, h6, h7, h8, h9, h10, h11, h12, h13, h14⟩
      · have e0 := h0 (zdq hd 0 rfl)
        have e1 := h1 (zdq hd 1 rfl)
        have e2 := h2 (zdq hd 2 rfl)
        have e3 := h3 (zdq hd 3 rfl)
        go_wp2_with (go_at_call 80; refine (HS.out pa HIA.out _).mono ?_; rintro e wy ⟨rfl, hy⟩)
        exact hK _ (.agg (zb 64 (sclP p pa c))) _ (by simp only [Act.put, pA, pB, pC, e0, e1, e2, e3]) ⟨hB.trans (hy.mono hB.size), (Nat.le_trans hz hy.size), s0.zw hy, s1.zw hy, s2.zw hy, (let ⟨g, h⟩ := x3; ⟨g, h.zw hy⟩), (fun h => (q3 h).below hy (q3 h).lt), (fun h => (n3 h).below hy (n3 h).lt), (let ⟨g, h⟩ := x4; ⟨g, h.zw hy⟩), (fun h => (q4 h).below hy (q4 h).lt), (fun h => (n4 h).below hy (n4 h).lt), (let ⟨g, h⟩ := x5; ⟨g, h.zw hy⟩), (fun h => (q5 h).below hy (q5 h).lt), (fun h => (n5 h).below hy (n5 h).lt), h0, h1, h2, h3, (fun _ => rfl), h5, h6, h7, h8, h9, h10, h11, h12, h13, h14⟩
      · go_wp2_with fail
        exact hK _ (.int .i64 (p : Int)) _ (by simp only [Act.put, pA, pB, pC ]) ⟨hB, hz, s0, s1, s2, x3, q3, n3, x4, q4, n4, x5, q5, n5, h0, h1, h2, h3, h4, (fun _ => rfl), h6, h7, h8, h9, h10, h11, h12, h13, h14⟩
      · go_wp2_with fail
        rw [← z64]
        exact hK _ (.agg (zb 64 (fun _ => 0))) _ (by simp only [Act.put, pA, pB, pC ]) ⟨hB, hz, s0, s1, s2, x3, q3, n3, x4, q4, n4, x5, q5, n5, h0, h1, h2, h3, h4, h5, (fun _ => rfl), h7, h8, h9, h10, h11, h12, h13, h14⟩
      · refine wp_load_blk 28 _ rfl _ rfl 64 28 _ s1 _ Try.underlying28 Try.size28 ?_
        exact hK _ _ _ rfl ⟨hB, hz, s0, s1, s2, x3, q3, n3, x4, q4, n4, x5, q5, n5, h0, h1, h2, h3, h4, h5, h6, (fun _ => rfl), h8, h9, h10, h11, h12, h13, h14⟩
      · go_wp2_with fail
        exact hK _ (.int .i64 (c : Int)) _ (by simp only [Act.put, pA, pB, pC ]) ⟨hB, hz, s0, s1, s2, x3, q3, n3, x4, q4, n4, x5, q5, n5, h0, h1, h2, h3, h4, h5, h6, h7, (fun _ => rfl), h9, h10, h11, h12, h13, h14⟩
      · have e5 := h5 (zdq hd 5 rfl)
        have e6 := h6 (zdq hd 6 rfl)
        have e7 := h7 (zdq hd 7 rfl)
        have e8 := h8 (zdq hd 8 rfl)
        go_wp2_with (go_at_call 80; refine (HS.out pu HIU.out _).mono ?_; rintro e wy ⟨rfl, hy⟩)
        exact hK _ (.agg (zb 64 (sclP p pu c))) _ (by simp only [Act.put, pA, pB, pC, e5, e6, e7, e8]) ⟨hB.trans (hy.mono hB.size), (Nat.le_trans hz hy.size), s0.zw hy, s1.zw hy, s2.zw hy, (let ⟨g, h⟩ := x3; ⟨g, h.zw hy⟩), (fun h => (q3 h).below hy (q3 h).lt), (fun h => (n3 h).below hy (n3 h).lt), (let ⟨g, h⟩ := x4; ⟨g, h.zw hy⟩), (fun h => (q4 h).below hy (q4 h).lt), (fun h => (n4 h).below hy (n4 h).lt), (let ⟨g, h⟩ := x5; ⟨g, h.zw hy⟩), (fun h => (q5 h).below hy (q5 h).lt), (fun h => (n5 h).below hy (n5 h).lt), h0, h1, h2, h3, h4, h5, h6, h7, h8, (fun _ => rfl), h10, h11, h12, h13, h14⟩
      · go_wp2_with fail
        exact hK _ (.int .i64 (p : Int)) _ (by simp only [Act.put, pA, pB, pC ]) ⟨hB, hz, s0, s1, s2, x3, q3, n3, x4, q4, n4, x5, q5, n5, h0, h1, h2, h3, h4, h5, h6, h7, h8, h9, (fun _ => rfl), h11, h12, h13, h14⟩
      · go_wp2_with fail
        rw [← z64]
        exact hK _ (.agg (zb 64 (fun _ => 0))) _ (by simp only [Act.put, pA, pB, pC ]) ⟨hB, hz, s0, s1, s2, x3, q3, n3, x4, q4, n4, x5, q5, n5, h0, h1, h2, h3, h4, h5, h6, h7, h8, h9, h10, (fun _ => rfl), h12, h13, h14⟩
      · refine wp_load_blk 28 _ rfl _ rfl 64 28 _ s2 _ Try.underlying28 Try.size28 ?_
        exact hK _ _ _ rfl ⟨hB, hz, s0, s1, s2, x3, q3, n3, x4, q4, n4, x5, q5, n5, h0, h1, h2, h3, h4, h5, h6, h7, h8, h9, h10, h11, (fun _ => rfl), h13, h14⟩
      · go_wp2_with fail
        exact hK _ (.int .i64 (c : Int)) _ (by simp only [Act.put, pA, pB, pC ]) ⟨hB, hz, s0, s1, s2, x3, q3, n3, x4, q4, n4, x5, q5, n5, h0, h1, h2, h3, h4, h5, h6, h7, h8, h9, h10, h11, h12, (fun _ => rfl), h14⟩
      · have e10 := h10 (zdq hd 10 rfl)
        have e11 := h11 (zdq hd 11 rfl)
        have e12 := h12 (zdq hd 12 rfl)
        have e13 := h13 (zdq hd 13 rfl)
        go_wp2_with (go_at_call 80; refine (HS.out pv HIV.out _).mono ?_; rintro e wy ⟨rfl, hy⟩)
        exact hK _ (.agg (zb 64 (sclP p pv c))) _ (by simp only [Act.put, pA, pB, pC, e10, e11, e12, e13]) ⟨hB.trans (hy.mono hB.size), (Nat.le_trans hz hy.size), s0.zw hy, s1.zw hy, s2.zw hy, (let ⟨g, h⟩ := x3; ⟨g, h.zw hy⟩), (fun h => (q3 h).below hy (q3 h).lt), (fun h => (n3 h).below hy (n3 h).lt), (let ⟨g, h⟩ := x4; ⟨g, h.zw hy⟩), (fun h => (q4 h).below hy (q4 h).lt), (fun h => (n4 h).below hy (n4 h).lt), (let ⟨g, h⟩ := x5; ⟨g, h.zw hy⟩), (fun h => (q5 h).below hy (q5 h).lt), (fun h => (n5 h).below hy (n5 h).lt), h0, h1, h2, h3, h4, h5, h6, h7, h8, h9, h10, h11, h12, h13, (fun _ => rfl)⟩
      · have e4 := h4 (zdq hd 4 rfl)
        obtain ⟨gz, hk⟩ := x3
        refine zsb 28 _ _ rfl _ 64 (sclP p pa c) rfl e4 28 gz hk Try.size28 ?_
        exact hK _ undef _ rfl ⟨zr hB (by omega) _, (by simpa [World.setRow] using hz), (s0).rowOther (by omega), (s1).rowOther (by omega), (s2).rowOther (by omega), ⟨_, hk.row _⟩, (fun h => absurd h (by simp [setL])), (fun _ => hk.row _), (let ⟨g, h⟩ := x4; ⟨g, (h).rowOther (by omega)⟩), (fun h => (q4 h).rowOther (by omega)), (fun h => (n4 h).rowOther (by omega)), (let ⟨g, h⟩ := x5; ⟨g, (h).rowOther (by omega)⟩), (fun h => (q5 h).rowOther (by omega)), (fun h => (n5 h).rowOther (by omega)), h0, h1, h2, h3, h4, h5, h6, h7, h8, h9, h10, h11, h12, h13, h14⟩
      · have e9 := h9 (zdq hd 9 rfl)
        obtain ⟨gz, hk⟩ := x4
        refine zsb 28 _ _ rfl _ 64 (sclP p pu c) rfl e9 28 gz hk Try.size28 ?_
        exact hK _ undef _ rfl ⟨zr hB (by omega) _, (by simpa [World.setRow] using hz), (s0).rowOther (by omega), (s1).rowOther (by omega), (s2).rowOther (by omega), (let ⟨g, h⟩ := x3; ⟨g, (h).rowOther (by omega)⟩), (fun h => (q3 h).rowOther (by omega)), (fun h => (n3 h).rowOther (by omega)), ⟨_, hk.row _⟩, (fun h => absurd h (by simp [setL])), (fun _ => hk.row _), (let ⟨g, h⟩ := x5; ⟨g, (h).rowOther (by omega)⟩), (fun h => (q5 h).rowOther (by omega)), (fun h => (n5 h).rowOther (by omega)), h0, h1, h2, h3, h4, h5, h6, h7, h8, h9, h10, h11, h12, h13, h14⟩
      · have e14 := h14 (zdq hd 14 rfl)
        obtain ⟨gz, hk⟩ := x5
        refine zsb 28 _ _ rfl _ 64 (sclP p pv c) rfl e14 28 gz hk Try.size28 ?_
        exact hK _ undef _ rfl ⟨zr hB (by omega) _, (by simpa [World.setRow] using hz), (s0).rowOther (by omega), (s1).rowOther (by omega), (s2).rowOther (by omega), (let ⟨g, h⟩ := x3; ⟨g, (h).rowOther (by omega)⟩), (fun h => (q3 h).rowOther (by omega)), (fun h => (n3 h).rowOther (by omega)), (let ⟨g, h⟩ := x4; ⟨g, (h).rowOther (by omega)⟩), (fun h => (q4 h).rowOther (by omega)), (fun h => (n4 h).rowOther (by omega)), ⟨_, hk.row _⟩, (fun h => absurd h (by simp [setL])), (fun _ => hk.row _), h0, h1, h2, h3, h4, h5, h6, h7, h8, h9, h10, h11, h12, h13, h14⟩
    · intro L v wx hL ⟨hB, hz, s0, s1, s2, x3, q3, n3, x4, q4, n4, x5, q5, n5, h0, h1, h2, h3, h4, h5, h6, h7, h8, h9, h10, h11, h12, h13, h14⟩
      have r3 := n3 (hL 15 (by decide))
      have r4 := n4 (hL 16 (by decide))
      have r5 := n5 (hL 17 (by decide))
      have e0 := h0 (hL 0 (by decide))
      have e1 := h1 (hL 1 (by decide))
      have e2 := h2 (hL 2 (by decide))
      have e3 := h3 (hL 3 (by decide))
      have e4 := h4 (hL 4 (by decide))
      have e5 := h5 (hL 5 (by decide))
      have e6 := h6 (hL 6 (by decide))
      have e7 := h7 (hL 7 (by decide))
      have e8 := h8 (hL 8 (by decide))
      have e9 := h9 (hL 9 (by decide))
      have e10 := h10 (hL 10 (by decide))
      have e11 := h11 (hL 11 (by decide))
      have e12 := h12 (hL 12 (by decide))
      have e13 := h13 (hL 13 (by decide))
      have e14 := h14 (hL 14 (by decide))
      clear hL x3 q3 n3 x4 q4 n4 x5 q5 n5 h0 h1 h2 h3 h4 h5 h6 h7 h8 h9 h10 h11 h12 h13 h14
      simp only [Exit.then, e0, e1, e2, e3, e4, e5, e6, e7, e8, e9, e10, e11, e12, e13, e14]
      clear e0 e1 e2 e3 e4 e5 e6 e7 e8 e9 e10 e11 e12 e13 e14
      go_wp2_with fail
      refine bodyPost_ret (results_bbb rfl _ _ _ 64 28 5 _ _ 64 28 5 _ _ 64 28 5 _ rfl r3 Try.underlying28 Try.size28 rfl r4 Try.underlying28 Try.size28 rfl r5 Try.underlying28 Try.size28) rfl ⟨by rw [HR.out.1, HR.out.2.1, HR.out.2.2], hB⟩
  · obtain ⟨k, rfl⟩ : ∃ j, k = j + 1 := ⟨k - 1, by omega⟩
    obtain ⟨hI', hdr, hdx, hdy⟩ := bzI_next hp hI hz
    have HI' := Lib.hid hI'
    have HRN := Lib.hid (hrun.trans (bzRun_go hz))
    have HDR := Lib.hid hdr
    have HT1 := Lib.hid (show tmV p (quoP p pa pb) px = ((prd p (quoP p pa pb) px), true) from if_pos hdx)
    have HT2 := Lib.hid (show tmV p (quoP p pa pb) py = ((prd p (quoP p pa pb) py), true) from if_pos hdy)
    have HL := Lib.hid (fun W => l01Divide_any p pa pb W hp ia ib (by omega))
    have HIX := Lib.hid ix; have HIY := Lib.hid iy; have HIU := Lib.hid iu; have HIV := Lib.hid iv
    have HSB := Lib.hid (show ∀ (f g : Nat → Nat), (∀ i, i < 64 → f i < p) → (∀ i, i < 64 → g i < p) → ∀ W, Calls Try.prog 80 #[.int .i64 (p : Int), .agg (zb 64 f), .agg (zb 64 g), .int .i64 (-1)] W fun e w' => e = .returned (.agg (zb 64 (subP p f g))) ∧ Below W.heap.size W w' by
     intro f g hf hg W
     have := l01Add_any p f g (-1) W p2 p7 (by omega) (by omega) hf hg
     rwa [zbc (g := subP p f g) (fun i hi => addK_neg p0 hg hi)] at this)
    have HY := Lib.hid (fun W => new2 W (quoP p pa pb) (resP p pa pb))
    have ha : Below wr.heap.size wr wr := Below.refl _ _
    clear hrun hI hI' hdr hdx hdy ia ib ix iy iu iv d1 d2 d3 d4 d5
    go_upto_region 4 with (first | (refine zlb rfl 28 (.tmp 5) rfl _ rfl 64 28 _ (b1.below (by assumption) b1.lt) 5 Try.underlying28 Try.size28 ?_) | (refine zlb rfl 28 (.tmp 4) rfl _ rfl 64 28 _ (b0.below (by assumption) b0.lt) 5 Try.underlying28 Try.size28 ?_) | (go_at_call 106; refine (acc (l01Deg_any _ _) (by assumption)).mono ?_; rintro e w1 ⟨rfl, h1, ha⟩) | (go_at_call 112; refine (acc (HL.out _) (by assumption)).mono ?_; rintro e w1 ⟨rfl, h1, ha⟩) | (rw [← z64]; refine wpList_store_blk rfl 28 (.tmp 13) (.tmp 34) rfl _ 64 (quoP p pa pb) rfl rfl 28 _ (HY.out w1).1 Try.size28 ?_) | (refine wpList_store_blk rfl 28 (.tmp 14) (.tmp 35) rfl _ 64 (resP p pa pb) rfl rfl 28 _ (HY.out w1).2.1 Try.size28 ?_))
    obtain ⟨_, _, f13, f14, hb5⟩ := HY.out w1
    have zM := ha.size
    replace ha := ha.trans (hb5.mono ha.size)
    obtain ⟨w5, hw5⟩ : ∃ w5 : World, w5 = ((((w1.alloc (.cells (zb 64 fun _ => 0) 28)).alloc (.cells (zb 64 fun _ => 0) 28)).setRow (w1.heap.size) (zb 64 (quoP p pa pb))).setRow (w1.heap.size + 1) (zb 64 (resP p pa pb))) := ⟨_, rfl⟩
    rw [← hw5] at f13 f14 hb5 ha ⊢
    obtain ⟨M, hM⟩ : ∃ M, M = w1.heap.size := ⟨_, rfl⟩
    rw [← hM] at f13 f14 zM ⊢
    clear hw5 hM hb5 h1 HY HL
    go_upto_region 5 with (first | (refine zlb rfl 28 (.tmp 13) rfl _ rfl 64 28 _ f13 5 Try.underlying28 Try.size28 ?_) | (refine zlb rfl 28 (.tmp 10) rfl _ rfl 64 28 _ (f10.zw ha) 5 Try.underlying28 Try.size28 ?_) | (go_at_call 85; refine (l01Times_any p (quoP p pa pb) px _ p2 p7 (fun i _ => quoP_lt p0 i) HIX.out).mono ?_; rw [HT1.out]; rintro e w6 ⟨rfl, h6⟩) | refine wpList_store_new rfl 28 _ _ rfl _ 28 64 ((prd p (quoP p pa pb) px)) rfl rfl rfl Try.size28 ?_)
    have f15 := Blk.new w6 64 28 (prd p (quoP p pa pb) px)
    replace f13 := (f13.zw h6).alloc (.cells (zb 64 (prd p (quoP p pa pb) px)) 28)
    replace f14 := (f14.zw h6).alloc (.cells (zb 64 (prd p (quoP p pa pb) px)) 28)
    replace ha := ha.trans (h6.mono ha.size)
    replace ha := ha.alloc ha.size (.cells (zb 64 (prd p (quoP p pa pb) px)) 28)
    obtain ⟨w7, hw7⟩ : ∃ w7 : World, w7 = w6.alloc (.cells (zb 64 (prd p (quoP p pa pb) px)) 28) := ⟨_, rfl⟩
    rw [← hw7] at f13 f14 f15 ha ⊢
    obtain ⟨M2, hM2⟩ : ∃ M, M = w6.heap.size := ⟨_, rfl⟩
    rw [← hM2] at f15 ⊢
    clear hw7 hM2 h6
    go_upto_region 6 with (first | (refine zlb rfl 28 (.tmp 13) rfl _ rfl 64 28 _ f13 5 Try.underlying28 Try.size28 ?_) | (refine zlb rfl 28 (.tmp 12) rfl _ rfl 64 28 _ (f12.zw ha) 5 Try.underlying28 Try.size28 ?_) | (go_at_call 85; refine (l01Times_any p (quoP p pa pb) py _ p2 p7 (fun i _ => quoP_lt p0 i) HIY.out).mono ?_; rw [HT2.out]; rintro e w8 ⟨rfl, h8⟩) | refine wpList_store_new rfl 28 _ _ rfl _ 28 64 ((prd p (quoP p pa pb) py)) rfl rfl rfl Try.size28 ?_)
    have f17 := Blk.new w8 64 28 (prd p (quoP p pa pb) py)
    replace f14 := (f14.zw h8).alloc (.cells (zb 64 (prd p (quoP p pa pb) py)) 28)
    replace f15 := (f15.zw h8).alloc (.cells (zb 64 (prd p (quoP p pa pb) py)) 28)
    replace ha := ha.trans (h8.mono ha.size)
    replace ha := ha.alloc ha.size (.cells (zb 64 (prd p (quoP p pa pb) py)) 28)
    obtain ⟨w9, hw9⟩ : ∃ w9 : World, w9 = w8.alloc (.cells (zb 64 (prd p (quoP p pa pb) py)) 28) := ⟨_, rfl⟩
    rw [← hw9] at f14 f15 f17 ha ⊢
    obtain ⟨M3, hM3⟩ : ∃ M, M = w8.heap.size := ⟨_, rfl⟩
    rw [← hM3] at f17 ⊢
    clear hw9 hM3 h8 f13
    have g9 := f9.zw ha
    have g11 := f11.zw ha
    have hl12 := f12.lt
    have lt_g9 : (N) < w9.heap.size := g9.lt
    have lt_g11 : (N + 1 + 1) < w9.heap.size := g11.lt
    have lt_f14 : (M + 1) < w9.heap.size := f14.lt
    have lt_f15 : (M2) < w9.heap.size := f15.lt
    have lt_f17 : (M3) < w9.heap.size := f17.lt
    have hbase : wr.heap.size ≤ w9.heap.size := ha.size
    refine zq Try.mixed (by kernel_rfl) (by kernel_rfl) (fun v => by (simp only [frL, Act.put, pA, pB, pC, Nat.reduceAdd, Nat.zero_add]; exact rfl))
     (fun L v wx => Below wr.heap.size wr wx ∧ w9.heap.size ≤ wx.heap.size ∧ Blk wx (N) 64 28 (pu) ∧ Blk wx (N + 1 + 1) 64 28 (pv) ∧ Blk wx (M + 1) 64 28 (resP p pa pb) ∧ Blk wx (M2) 64 28 (prd p (quoP p pa pb) px) ∧ Blk wx (M3) 64 28 (prd p (quoP p pa pb) py) ∧ (L 0 = true → v 0 = (.int .i64 (p : Int))) ∧ (L 1 = true → v 1 = (.agg (zb 64 (pu)))) ∧ (L 2 = true → v 2 = (.agg (zb 64 (prd p (quoP p pa pb) px)))) ∧ (L 3 = true → v 3 = (.agg (zb 64 (subP p pu (prd p (quoP p pa pb) px))))) ∧ (L 4 = true → v 4 = (.int .i64 (p : Int))) ∧ (L 5 = true → v 5 = (.agg (zb 64 (pv)))) ∧ (L 6 = true → v 6 = (.agg (zb 64 (prd p (quoP p pa pb) py)))) ∧ (L 7 = true → v 7 = (.agg (zb 64 (subP p pv (prd p (quoP p pa pb) py))))) ∧ (L 8 = true → AF (v 8) wx w9.heap.size 64 28) ∧ (L 9 = true → AF (v 9) wx w9.heap.size 64 28) ∧ (L 10 = true → PF (v 8) wx w9.heap.size 64 28 (subP p pu (prd p (quoP p pa pb) px))) ∧ (L 11 = true → PF (v 9) wx w9.heap.size 64 28 (subP p pv (prd p (quoP p pa pb) py))) ∧ (L 8 = true → L 9 = true → v 8 ≠ v 9)) ?_ ?_ ?_
    · intro v hv0
      exact ⟨ha.drew, Nat.le_refl _, g9.drew, g11.drew, f14.drew, f15.drew, f17.drew, (fun h => by cases h), (fun h => by cases h), (fun h => by cases h), (fun h => by cases h), (fun h => by cases h), (fun h => by cases h), (fun h => by cases h), (fun h => by cases h), (fun h => by cases h), (fun h => by cases h), (fun h => by cases h), (fun h => by cases h), (fun h => by cases h)⟩
    · refine (.cons rfl ?_ (.cons rfl ?_ (.cons rfl ?_ (.cons rfl ?_ (.cons rfl ?_ (.cons rfl ?_ (.cons rfl ?_ (.cons rfl ?_ (.cons rfl ?_ (.cons rfl ?_ (.cons rfl ?_ (.cons rfl ?_ (.nil _)))))))))))))
      all_goals intro L v wx hd hn ⟨hB, hz, s0, s1, s2, s3, s4, h0, h1, h2, h3, h4, h5, h6, h7, h8, h9, h10, h11, d8_9⟩ K hK
      · go_wp2_with fail
        exact hK _ (.int .i64 (p : Int)) _ (by simp only [Act.put, pA, pB, pC ]) ⟨hB, hz, s0, s1, s2, s3, s4, (fun _ => rfl), h1, h2, h3, h4, h5, h6, h7, h8, h9, h10, h11, d8_9⟩
      · refine wp_load_blk 28 _ rfl _ rfl 64 28 _ s0 _ Try.underlying28 Try.size28 ?_
        exact hK _ _ _ rfl ⟨hB, hz, s0, s1, s2, s3, s4, h0, (fun _ => rfl), h2, h3, h4, h5, h6, h7, h8, h9, h10, h11, d8_9⟩
      · refine wp_load_blk 28 _ rfl _ rfl 64 28 _ s3 _ Try.underlying28 Try.size28 ?_
        exact hK _ _ _ rfl ⟨hB, hz, s0, s1, s2, s3, s4, h0, h1, (fun _ => rfl), h3, h4, h5, h6, h7, h8, h9, h10, h11, d8_9⟩
      · have e0 := h0 (zdq hd 0 rfl)
        have e1 := h1 (zdq hd 1 rfl)
        have e2 := h2 (zdq hd 2 rfl)
        go_wp2_with (go_at_call 80; refine (HSB.out pu (prd p (quoP p pa pb) px) HIU.out (fun i _ => prd_lt p0 i) _).mono ?_; rintro e wy ⟨rfl, hy⟩)
        exact hK _ (.agg (zb 64 (subP p pu (prd p (quoP p pa pb) px)))) _ (by simp only [Act.put, pA, pB, pC, e0, e1, e2]) ⟨hB.trans (hy.mono hB.size), (Nat.le_trans hz hy.size), s0.zw hy, s1.zw hy, s2.zw hy, s3.zw hy, s4.zw hy, h0, h1, h2, (fun _ => rfl), h4, h5, h6, h7, (fun h => (h8 h).below hy), (fun h => (h9 h).below hy), (fun h => (h10 h).below hy), (fun h => (h11 h).below hy), d8_9⟩
      · go_wp2_with fail
        exact hK _ (.int .i64 (p : Int)) _ (by simp only [Act.put, pA, pB, pC ]) ⟨hB, hz, s0, s1, s2, s3, s4, h0, h1, h2, h3, (fun _ => rfl), h5, h6, h7, h8, h9, h10, h11, d8_9⟩
      · refine wp_load_blk 28 _ rfl _ rfl 64 28 _ s1 _ Try.underlying28 Try.size28 ?_
        exact hK _ _ _ rfl ⟨hB, hz, s0, s1, s2, s3, s4, h0, h1, h2, h3, h4, (fun _ => rfl), h6, h7, h8, h9, h10, h11, d8_9⟩
      · refine wp_load_blk 28 _ rfl _ rfl 64 28 _ s4 _ Try.underlying28 Try.size28 ?_
        exact hK _ _ _ rfl ⟨hB, hz, s0, s1, s2, s3, s4, h0, h1, h2, h3, h4, h5, (fun _ => rfl), h7, h8, h9, h10, h11, d8_9⟩
      · have e4 := h4 (zdq hd 4 rfl)
        have e5 := h5 (zdq hd 5 rfl)
        have e6 := h6 (zdq hd 6 rfl)
        go_wp2_with (go_at_call 80; refine (HSB.out pv (prd p (quoP p pa pb) py) HIV.out (fun i _ => prd_lt p0 i) _).mono ?_; rintro e wy ⟨rfl, hy⟩)
        exact hK _ (.agg (zb 64 (subP p pv (prd p (quoP p pa pb) py)))) _ (by simp only [Act.put, pA, pB, pC, e4, e5, e6]) ⟨hB.trans (hy.mono hB.size), (Nat.le_trans hz hy.size), s0.zw hy, s1.zw hy, s2.zw hy, s3.zw hy, s4.zw hy, h0, h1, h2, h3, h4, h5, h6, (fun _ => rfl), (fun h => (h8 h).below hy), (fun h => (h9 h).below hy), (fun h => (h10 h).below hy), (fun h => (h11 h).below hy), d8_9⟩
      · go_wp2_with fail
        rw [← z64]
        exact hK _ (.pointer (some ⟨wx.heap.size, 0, none⟩)) _ (by simp only [Act.put, pA, pB, pC ]) ⟨hB.alloc hB.size _, (by simp; omega), (s0).alloc _, (s1).alloc _, (s2).alloc _, (s3).alloc _, (s4).alloc _, h0, h1, h2, h3, h4, h5, h6, h7, (fun _ => (PF.new wx 64 28 _ hz).af), (fun h => (h9 h).below (zal _ _)), (fun h => absurd rfl (hn 10 _ rfl h ⟨8, .data⟩ (by simp) rfl)), (fun h => (h11 h).below (zal _ _)), (fun h g1 => Ne.symm ((h9 g1).ne_new))⟩
      · go_wp2_with fail
        rw [← z64]
        exact hK _ (.pointer (some ⟨wx.heap.size, 0, none⟩)) _ (by simp only [Act.put, pA, pB, pC ]) ⟨hB.alloc hB.size _, (by simp; omega), (s0).alloc _, (s1).alloc _, (s2).alloc _, (s3).alloc _, (s4).alloc _, h0, h1, h2, h3, h4, h5, h6, h7, (fun h => (h8 h).below (zal _ _)), (fun _ => (PF.new wx 64 28 _ hz).af), (fun h => (h10 h).below (zal _ _)), (fun h => absurd rfl (hn 11 _ rfl h ⟨9, .data⟩ (by simp) rfl)), (fun h g1 => (h8 h).ne_new)⟩
      · have e3 := h3 (zdq hd 3 rfl)
        obtain ⟨gz, b, ea, hN, hk⟩ := (h8 (zdq hd 8 rfl)).out
        refine zsb 28 _ _ rfl b 64 (subP p pu (prd p (quoP p pa pb) px)) ea e3 28 gz hk Try.size28 ?_
        exact hK _ undef _ rfl ⟨zr hB (Nat.le_trans hbase hN) _, (by simpa [World.setRow] using hz), (s0).rowOther (by omega), (s1).rowOther (by omega), (s2).rowOther (by omega), (s3).rowOther (by omega), (s4).rowOther (by omega), h0, h1, h2, h3, h4, h5, h6, h7, (fun h => (h8 h).row hk), (fun h => (h9 h).row hk), (fun _ => by rw [show updV v 10 undef 8 = v 8 from rfl, ea]; exact PF.row hk hN _), (fun h => (h11 h).rowOther (by rw [← ea]; exact (Ne.symm (d8_9 (zdq hd 8 rfl) (zdq hd 9 rfl))))), d8_9⟩
      · have e7 := h7 (zdq hd 7 rfl)
        obtain ⟨gz, b, ea, hN, hk⟩ := (h9 (zdq hd 9 rfl)).out
        refine zsb 28 _ _ rfl b 64 (subP p pv (prd p (quoP p pa pb) py)) ea e7 28 gz hk Try.size28 ?_
        exact hK _ undef _ rfl ⟨zr hB (Nat.le_trans hbase hN) _, (by simpa [World.setRow] using hz), (s0).rowOther (by omega), (s1).rowOther (by omega), (s2).rowOther (by omega), (s3).rowOther (by omega), (s4).rowOther (by omega), h0, h1, h2, h3, h4, h5, h6, h7, (fun h => (h8 h).row hk), (fun h => (h9 h).row hk), (fun h => (h10 h).rowOther (by rw [← ea]; exact (d8_9 (zdq hd 8 rfl) (zdq hd 9 rfl)))), (fun _ => by rw [show updV v 11 undef 9 = v 9 from rfl, ea]; exact PF.row hk hN _), d8_9⟩
    · intro L v wx hL ⟨hB, hz, s0, s1, s2, s3, s4, h0, h1, h2, h3, h4, h5, h6, h7, h8, h9, h10, h11, d8_9⟩
      have e0 := h0 (hL 0 (by decide))
      have e1 := h1 (hL 1 (by decide))
      have e2 := h2 (hL 2 (by decide))
      have e3 := h3 (hL 3 (by decide))
      have e4 := h4 (hL 4 (by decide))
      have e5 := h5 (hL 5 (by decide))
      have e6 := h6 (hL 6 (by decide))
      have e7 := h7 (hL 7 (by decide))
      obtain ⟨b8, e8, hN8, hb8⟩ := (h10 (hL 10 (by decide))).out
      obtain ⟨b9, e9, hN9, hb9⟩ := (h11 (hL 11 (by decide))).out
      have n8_9 := d8_9 (hL 8 (by decide)) (hL 9 (by decide))
      clear hL h0 h1 h2 h3 h4 h5 h6 h7 h8 h9 h10 h11 d8_9
      rw [e8, e9] at n8_9
      have m8_9 : b8 ≠ b9 := fun h => n8_9 (by rw [h])
      clear n8_9
      simp only [Exit.then, e0, e1, e2, e3, e4, e5, e6, e7, e8, e9]
      clear e0 e1 e2 e3 e4 e5 e6 e7 e8 e9
      have z0 := b0.lt
      have z1 := b1.lt
      have z9 := f9.lt
      have z10 := f10.lt
      have z11 := f11.lt
      have z12 := f12.lt
      have z14 := f14.lt
      have zs := ha.size
      have q0 : Blk wx (w.heap.size + 1) 64 28 (pb) := (b1.zw hB)
      have q1 : Blk wx (w.heap.size) 64 28 (pa) := (b0.zw hB)
      have q2 : Blk (wx.setRow (w.heap.size) (zb 64 (pb))) (M + 1) 64 28 (resP p pa pb) := (s2.rowOther (by omega))
      have q3 : Blk (wx.setRow (w.heap.size) (zb 64 (pb))) (w.heap.size + 1) 64 28 (pb) := ((b1.zw hB).rowOther (by omega))
      have q4 : Blk ((wx.setRow (w.heap.size) (zb 64 (pb))).setRow (w.heap.size + 1) (zb 64 (resP p pa pb))) (N + 1) 64 28 (px) := (((f10.zw hB).rowOther (by omega)).rowOther (by omega))
      have q5 : Blk ((wx.setRow (w.heap.size) (zb 64 (pb))).setRow (w.heap.size + 1) (zb 64 (resP p pa pb))) N 64 28 (pu) := (((f9.zw hB).rowOther (by omega)).rowOther (by omega))
      have q6 : Blk (((wx.setRow (w.heap.size) (zb 64 (pb))).setRow (w.heap.size + 1) (zb 64 (resP p pa pb))).setRow N (zb 64 (px))) (N + 1 + 1 + 1) 64 28 (py) := ((((f12.zw hB).rowOther (by omega)).rowOther (by omega)).rowOther (by omega))
      have q7 : Blk (((wx.setRow (w.heap.size) (zb 64 (pb))).setRow (w.heap.size + 1) (zb 64 (resP p pa pb))).setRow N (zb 64 (px))) (N + 1 + 1) 64 28 (pv) := ((((f11.zw hB).rowOther (by omega)).rowOther (by omega)).rowOther (by omega))
      have q8 : Blk ((((wx.setRow (w.heap.size) (zb 64 (pb))).setRow (w.heap.size + 1) (zb 64 (resP p pa pb))).setRow N (zb 64 (px))).setRow (N + 1 + 1) (zb 64 (py))) b8 64 28 ((subP p pu (prd p (quoP p pa pb) px))) := ((((hb8.rowOther (by omega)).rowOther (by omega)).rowOther (by omega)).rowOther (by omega))
      have q9 : Blk ((((wx.setRow (w.heap.size) (zb 64 (pb))).setRow (w.heap.size + 1) (zb 64 (resP p pa pb))).setRow N (zb 64 (px))).setRow (N + 1 + 1) (zb 64 (py))) (N + 1) 64 28 (px) := (((((f10.zw hB).rowOther (by omega)).rowOther (by omega)).rowOther (by omega)).rowOther (by omega))
      have q10 : Blk (((((wx.setRow (w.heap.size) (zb 64 (pb))).setRow (w.heap.size + 1) (zb 64 (resP p pa pb))).setRow N (zb 64 (px))).setRow (N + 1 + 1) (zb 64 (py))).setRow (N + 1) (zb 64 ((subP p pu (prd p (quoP p pa pb) px))))) b9 64 28 ((subP p pv (prd p (quoP p pa pb) py))) := (((((hb9.rowOther (by omega)).rowOther (by omega)).rowOther (by omega)).rowOther (by omega)).rowOther (by omega))
      have q11 : Blk (((((wx.setRow (w.heap.size) (zb 64 (pb))).setRow (w.heap.size + 1) (zb 64 (resP p pa pb))).setRow N (zb 64 (px))).setRow (N + 1 + 1) (zb 64 (py))).setRow (N + 1) (zb 64 ((subP p pu (prd p (quoP p pa pb) px))))) (N + 1 + 1 + 1) 64 28 (py) := ((((((f12.zw hB).rowOther (by omega)).rowOther (by omega)).rowOther (by omega)).rowOther (by omega)).rowOther (by omega))
      have hbF : Below w.heap.size w ((((((wx.setRow (w.heap.size) (zb 64 (pb))).setRow (w.heap.size + 1) (zb 64 (resP p pa pb))).setRow N (zb 64 (px))).setRow (N + 1 + 1) (zb 64 (py))).setRow (N + 1) (zb 64 ((subP p pu (prd p (quoP p pa pb) px))))).setRow (N + 1 + 1 + 1) (zb 64 ((subP p pv (prd p (quoP p pa pb) py))))) := (zr (zr (zr (zr (zr (zr (hb.trans (hB.mono hb.size)) (by omega) _) (by omega) _) (by omega) _) (by omega) _) (by omega) _) (by omega) _)
      have kn0 : Blk ((((((wx.setRow (w.heap.size) (zb 64 (pb))).setRow (w.heap.size + 1) (zb 64 (resP p pa pb))).setRow N (zb 64 (px))).setRow (N + 1 + 1) (zb 64 (py))).setRow (N + 1) (zb 64 ((subP p pu (prd p (quoP p pa pb) px))))).setRow (N + 1 + 1 + 1) (zb 64 ((subP p pv (prd p (quoP p pa pb) py))))) (w.heap.size) 64 28 (pb) := (((((((b0.zw hB).row (pb)).rowOther (by omega)).rowOther (by omega)).rowOther (by omega)).rowOther (by omega)).rowOther (by omega))
      have kn1 : Blk ((((((wx.setRow (w.heap.size) (zb 64 (pb))).setRow (w.heap.size + 1) (zb 64 (resP p pa pb))).setRow N (zb 64 (px))).setRow (N + 1 + 1) (zb 64 (py))).setRow (N + 1) (zb 64 ((subP p pu (prd p (quoP p pa pb) px))))).setRow (N + 1 + 1 + 1) (zb 64 ((subP p pv (prd p (quoP p pa pb) py))))) (w.heap.size + 1) 64 28 (resP p pa pb) := (((((((b1.zw hB).rowOther (by omega)).row (resP p pa pb)).rowOther (by omega)).rowOther (by omega)).rowOther (by omega)).rowOther (by omega))
      have kN0 : Blk ((((((wx.setRow (w.heap.size) (zb 64 (pb))).setRow (w.heap.size + 1) (zb 64 (resP p pa pb))).setRow N (zb 64 (px))).setRow (N + 1 + 1) (zb 64 (py))).setRow (N + 1) (zb 64 ((subP p pu (prd p (quoP p pa pb) px))))).setRow (N + 1 + 1 + 1) (zb 64 ((subP p pv (prd p (quoP p pa pb) py))))) N 64 28 (px) := (((((((f9.zw hB).rowOther (by omega)).rowOther (by omega)).row (px)).rowOther (by omega)).rowOther (by omega)).rowOther (by omega))
      have kN1 : Blk ((((((wx.setRow (w.heap.size) (zb 64 (pb))).setRow (w.heap.size + 1) (zb 64 (resP p pa pb))).setRow N (zb 64 (px))).setRow (N + 1 + 1) (zb 64 (py))).setRow (N + 1) (zb 64 ((subP p pu (prd p (quoP p pa pb) px))))).setRow (N + 1 + 1 + 1) (zb 64 ((subP p pv (prd p (quoP p pa pb) py))))) (N + 1) 64 28 ((subP p pu (prd p (quoP p pa pb) px))) := (((((((f10.zw hB).rowOther (by omega)).rowOther (by omega)).rowOther (by omega)).rowOther (by omega)).row ((subP p pu (prd p (quoP p pa pb) px)))).rowOther (by omega))
      have kN2 : Blk ((((((wx.setRow (w.heap.size) (zb 64 (pb))).setRow (w.heap.size + 1) (zb 64 (resP p pa pb))).setRow N (zb 64 (px))).setRow (N + 1 + 1) (zb 64 (py))).setRow (N + 1) (zb 64 ((subP p pu (prd p (quoP p pa pb) px))))).setRow (N + 1 + 1 + 1) (zb 64 ((subP p pv (prd p (quoP p pa pb) py))))) (N + 1 + 1) 64 28 (py) := (((((((f11.zw hB).rowOther (by omega)).rowOther (by omega)).rowOther (by omega)).row (py)).rowOther (by omega)).rowOther (by omega))
      have kN3 : Blk ((((((wx.setRow (w.heap.size) (zb 64 (pb))).setRow (w.heap.size + 1) (zb 64 (resP p pa pb))).setRow N (zb 64 (px))).setRow (N + 1 + 1) (zb 64 (py))).setRow (N + 1) (zb 64 ((subP p pu (prd p (quoP p pa pb) px))))).setRow (N + 1 + 1 + 1) (zb 64 ((subP p pv (prd p (quoP p pa pb) py))))) (N + 1 + 1 + 1) 64 28 ((subP p pv (prd p (quoP p pa pb) py))) := (((((((f12.zw hB).rowOther (by omega)).rowOther (by omega)).rowOther (by omega)).rowOther (by omega)).rowOther (by omega)).row ((subP p pv (prd p (quoP p pa pb) py))))
      have kz0 : Blk ((((((wx.setRow (w.heap.size) (zb 64 (pb))).setRow (w.heap.size + 1) (zb 64 (resP p pa pb))).setRow N (zb 64 (px))).setRow (N + 1 + 1) (zb 64 (py))).setRow (N + 1) (zb 64 ((subP p pu (prd p (quoP p pa pb) px))))).setRow (N + 1 + 1 + 1) (zb 64 ((subP p pv (prd p (quoP p pa pb) py))))) (w.heap.size + 1 + 1) 64 28 (fun _ => 0) := (((((((b2.zw hB).rowOther (by omega)).rowOther (by omega)).rowOther (by omega)).rowOther (by omega)).rowOther (by omega)).rowOther (by omega))
      have kz1 : Blk ((((((wx.setRow (w.heap.size) (zb 64 (pb))).setRow (w.heap.size + 1) (zb 64 (resP p pa pb))).setRow N (zb 64 (px))).setRow (N + 1 + 1) (zb 64 (py))).setRow (N + 1) (zb 64 ((subP p pu (prd p (quoP p pa pb) px))))).setRow (N + 1 + 1 + 1) (zb 64 ((subP p pv (prd p (quoP p pa pb) py))))) (w.heap.size + 1 + 1 + 1) 64 28 (fun _ => 0) := (((((((b3.zw hB).rowOther (by omega)).rowOther (by omega)).rowOther (by omega)).rowOther (by omega)).rowOther (by omega)).rowOther (by omega))
      have kz2 : Blk ((((((wx.setRow (w.heap.size) (zb 64 (pb))).setRow (w.heap.size + 1) (zb 64 (resP p pa pb))).setRow N (zb 64 (px))).setRow (N + 1 + 1) (zb 64 (py))).setRow (N + 1) (zb 64 ((subP p pu (prd p (quoP p pa pb) px))))).setRow (N + 1 + 1 + 1) (zb 64 ((subP p pv (prd p (quoP p pa pb) py))))) (w.heap.size + 1 + 1 + 1 + 1) 64 28 (fun _ => 0) := (((((((b4.zw hB).rowOther (by omega)).rowOther (by omega)).rowOther (by omega)).rowOther (by omega)).rowOther (by omega)).rowOther (by omega))
      clear z0 z1 z9 z10 z11 z12 z14 zs
      go_upto_region 8 with (first | (refine zlb rfl 28 (.tmp 5) rfl _ rfl 64 28 _ q0 5 Try.underlying28 Try.size28 ?_) | (refine zsr (.tmp 4) (.tmp 58) (pb) q1 Try.size28 ?_))
      try simp only [Act.put, pA, pB, pC]
      go_upto_region 9 with (first | (refine zlb rfl 28 (.tmp 14) rfl _ rfl 64 28 _ q2 5 Try.underlying28 Try.size28 ?_) | (refine zsr (.tmp 5) (.tmp 59) (resP p pa pb) q3 Try.size28 ?_))
      try simp only [Act.put, pA, pB, pC]
      go_upto_region 10 with (first | (refine zlb rfl 28 (.tmp 10) rfl _ rfl 64 28 _ q4 5 Try.underlying28 Try.size28 ?_) | (refine zsr (.tmp 9) (.tmp 60) (px) q5 Try.size28 ?_))
      try simp only [Act.put, pA, pB, pC]
      go_upto_region 11 with (first | (refine zlb rfl 28 (.tmp 12) rfl _ rfl 64 28 _ q6 5 Try.underlying28 Try.size28 ?_) | (refine zsr (.tmp 11) (.tmp 61) (py) q7 Try.size28 ?_))
      try simp only [Act.put, pA, pB, pC]
      go_upto_region 12 with (first | (refine zlb rfl 28 (.tmp 19) rfl _ rfl 64 28 _ q8 5 Try.underlying28 Try.size28 ?_) | (refine zsr (.tmp 10) (.tmp 62) ((subP p pu (prd p (quoP p pa pb) px))) q9 Try.size28 ?_))
      try simp only [Act.put, pA, pB, pC]
      go_wp2_with (first | (refine zlb rfl 28 (.tmp 20) rfl _ rfl 64 28 _ q10 5 Try.underlying28 Try.size28 ?_) | (refine zsr (.tmp 12) (.tmp 63) ((subP p pv (prd p (quoP p pa pb) py))) q11 Try.size28 ?_))
      try simp only [Act.put, pA, pB, pC]
      try simp only [Act.put]
      go_roundw
      case rel => exact ⟨k, pb, resP p pa pb, px, (subP p pu (prd p (quoP p pa pb) px)), py, (subP p pv (prd p (quoP p pa pb) py)), HRN.out, by have := HDR.out; omega, HI'.out, hbF, kn0, kn1, kz0, kz1, kz2, kN0, kN1, kN2, kN3⟩
      case measure =>
       rw [degAt_blk kn1 (by omega), degAt_blk b1 (by omega)]
       have := HDR.out
       omega
end Go.Proofs.Ytelgefgphhebnaa
end
