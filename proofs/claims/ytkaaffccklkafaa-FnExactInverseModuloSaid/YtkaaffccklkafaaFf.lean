/-
  Plain mathematics: fields of residues: the least power of p that leaves a generator alone is the degree.
-/
namespace Go.Proofs.Ytkaaffccklkafaa
/-- sums and products as in the whole numbers -/
class Rg (R : Type) extends Add R, Mul R, Neg R where
  o : R
  e : R
  acomm : ∀ a b : R, a + b = b + a
  aassoc : ∀ a b c : R, a + b + c = a + (b + c)
  oadd : ∀ a : R, o + a = a
  nadd : ∀ a : R, -a + a = o
  mcomm : ∀ a b : R, a * b = b * a
  massoc : ∀ a b c : R, a * b * c = a * (b * c)
  emul : ∀ a : R, e * a = a
  madd : ∀ a b c : R, a * (b + c) = a * b + a * c
namespace Rg
variable {R : Type} [Rg R]
theorem addo (a : R) : a + o = a := by rw [acomm]; exact oadd a
theorem mule (a : R) : a * e = a := by rw [mcomm]; exact emul a
theorem addm (a b c : R) : (b + c) * a = b * a + c * a := by rw [mcomm, madd, mcomm a b, mcomm a c]
theorem alcomm (a b c : R) : a + (b + c) = b + (a + c) := by rw [← aassoc, acomm a b, aassoc]
theorem mlcomm (a b c : R) : a * (b * c) = b * (a * c) := by rw [← massoc, mcomm a b, massoc]
theorem cancel {a b c : R} (h : a + b = a + c) : b = c := by
  have h2 : -a + (a + b) = -a + (a + c) := by rw [h]
  rwa [← aassoc, ← aassoc, nadd, oadd, oadd] at h2
theorem mulo (a : R) : a * o = o := by
  have h : a * o + a * o = a * o + o := by rw [← madd, oadd, addo]
  exact cancel h
theorem omul (a : R) : o * a = o := by rw [mcomm]; exact mulo a
theorem diff (x r : R) : ∃ d, x = r + d := ⟨-r + x, by rw [← aassoc, acomm r, nadd, oadd]⟩
/-- a^n -/
def pw (a : R) : Nat → R
  | 0 => e
  | n + 1 => a * pw a n
theorem pw_add (a : R) (m : Nat) : ∀ n, pw a (m + n) = pw a m * pw a n
  | 0 => by rw [Nat.add_zero]; exact (mule _).symm
  | n + 1 => by
    show a * pw a (m + n) = pw a m * (a * pw a n)
    rw [pw_add a m n, mlcomm]
theorem pw_one : ∀ n, pw (e : R) n = e
  | 0 => rfl
  | n + 1 => by show e * pw e n = e; rw [pw_one n, emul]
theorem pw_mul (a b : R) : ∀ n, pw (a * b) n = pw a n * pw b n
  | 0 => (emul _).symm
  | n + 1 => by
    show a * b * pw (a * b) n = a * pw a n * (b * pw b n)
    rw [pw_mul a b n, massoc, massoc, mlcomm b]
theorem pw_pw (a : R) (m : Nat) : ∀ n, pw (pw a m) n = pw a (m * n)
  | 0 => rfl
  | n + 1 => by
    show pw a m * pw (pw a m) n = pw a (m * n + m)
    rw [pw_pw a m n, pw_add, mcomm]
/-- k times a -/
def nm : Nat → R → R
  | 0, _ => o
  | k + 1, a => nm k a + a
theorem nm_add (a : R) (j : Nat) : ∀ k, nm (j + k) a = nm j a + nm k a
  | 0 => (addo _).symm
  | k + 1 => by show nm (j + k) a + a = nm j a + (nm k a + a); rw [nm_add a j k, aassoc]
theorem nm_mul (a b : R) : ∀ k, nm k a * b = nm k (a * b)
  | 0 => omul b
  | k + 1 => by show (nm k a + a) * b = nm k (a * b) + a * b; rw [addm, nm_mul a b k]
theorem mul_nm (a b : R) (k : Nat) : a * nm k b = nm k (a * b) := by rw [mcomm, nm_mul, mcomm]
theorem nm_one (a : R) : nm 1 a = a := oadd a
theorem nm_nm (a : R) (j : Nat) : ∀ k, nm k (nm j a) = nm (j * k) a
  | 0 => rfl
  | k + 1 => by show nm k (nm j a) + nm j a = nm (j * k + j) a; rw [nm_nm a j k, nm_add]
theorem nm_char {p : Nat} (h : nm p (e : R) = o) (a : R) : nm p a = o := by
  have := nm_mul e a p
  rw [h, omul, emul] at this
  exact this.symm
theorem nm_mult {p : Nat} (h : nm p (e : R) = o) (k : Nat) (a : R) : nm (p * k) a = o := by
  have h0 : ∀ k, nm k (o : R) = o := by
    intro k
    induction k with
    | zero => rfl
    | succ k ih => show nm k o + o = o; rw [ih, oadd]
  rw [← nm_nm, nm_char h, h0]
/-- the sum of c(i) x^i y^(n - i), for the n + 1 numbers of a list -/
def hm (x y : R) : List Nat → R
  | [] => o
  | c :: cs => nm c (pw y cs.length) + x * hm x y cs
def pas : Nat → List Nat → List Nat
  | q, [] => [q]
  | q, c :: cs => (q + c) :: pas c cs
theorem pas_len : ∀ q cs, (pas q cs).length = cs.length + 1
  | _, [] => rfl
  | _, c :: cs => by show (pas c cs).length + 1 = _; rw [pas_len c cs]; rfl
theorem hm_pas (x y : R) : ∀ (q : Nat) (cs : List Nat), hm x y (pas q cs) = nm q (pw y cs.length) + (x + y) * hm x y cs
  | q, [] => by
    show nm q (pw y 0) + x * o = nm q (pw y 0) + (x + y) * o
    rw [mulo, mulo]
  | q, c :: cs => by
    show nm (q + c) (pw y (pas c cs).length) + x * hm x y (pas c cs) = nm q (pw y (cs.length + 1)) + (x + y) * (nm c (pw y cs.length) + x * hm x y cs)
    rw [hm_pas x y c cs, pas_len, nm_add, aassoc]
    congr 1
    have h1 : nm c (pw y (cs.length + 1)) = y * nm c (pw y cs.length) := (mul_nm _ _ _).symm
    rw [h1, madd, madd, addm, addm, aassoc, mlcomm (x + y) x, addm]
    exact alcomm _ _ _
def row : Nat → List Nat
  | 0 => [1]
  | n + 1 => pas 0 (row n)
theorem binom (x y : R) : ∀ n, pw (x + y) n = hm x y (row n)
  | 0 => by show e = nm 1 (pw y 0) + x * o; rw [mulo, addo, nm_one]; rfl
  | n + 1 => by
    show (x + y) * pw (x + y) n = hm x y (pas 0 (row n))
    rw [hm_pas, binom x y n]
    exact (oadd _).symm
theorem frob_add {p : Nat} (hp : p = 2 ∨ p = 3 ∨ p = 5 ∨ p = 7) (hc : nm p (e : R) = o) (x y : R) : pw (x + y) p = pw x p + pw y p := by
  rw [binom]
  have h2 : ∀ k (a : R), nm (p * k) a = o := nm_mult hc
  rcases hp with rfl | rfl | rfl | rfl
  · show nm 1 (pw y 2) + x * (nm (2 * 1) (pw y 1) + x * (nm 1 (pw y 0) + x * o)) = x * (x * e) + pw y 2
    rw [h2, mulo, addo, nm_one, nm_one, oadd, acomm]; rfl
  · show nm 1 (pw y 3) + x * (nm (3 * 1) (pw y 2) + x * (nm (3 * 1) (pw y 1) + x * (nm 1 (pw y 0) + x * o))) = x * (x * (x * e)) + pw y 3
    rw [h2, h2, mulo, addo, nm_one, nm_one, oadd, oadd, acomm]; rfl
  · show nm 1 (pw y 5) + x * (nm (5 * 1) (pw y 4) + x * (nm (5 * 2) (pw y 3) + x * (nm (5 * 2) (pw y 2) + x * (nm (5 * 1) (pw y 1) + x * (nm 1 (pw y 0) + x * o))))) = x * (x * (x * (x * (x * e)))) + pw y 5
    simp only [h2, mulo, addo, nm_one, oadd]; rw [acomm]; rfl
  · show nm 1 (pw y 7) + x * (nm (7 * 1) (pw y 6) + x * (nm (7 * 3) (pw y 5) + x * (nm (7 * 5) (pw y 4) + x * (nm (7 * 5) (pw y 3) + x * (nm (7 * 3) (pw y 2) + x * (nm (7 * 1) (pw y 1) + x * (nm 1 (pw y 0) + x * o))))))) = x * (x * (x * (x * (x * (x * (x * e)))))) + pw y 7
    simp only [h2, mulo, addo, nm_one, oadd]; rw [acomm]; rfl
/-- a polynomial function of the degree n with the leading coefficient c -/
def PolF : Nat → R → (R → R) → Prop
  | 0, c, f => f = fun _ => c
  | n + 1, c, f => ∃ a g, PolF n c g ∧ f = fun x => a + x * g x
theorem polF_step {n : Nat} {c : R} {g : R → R} (a : R) (h : PolF n c g) : PolF (n + 1) c (fun x => a + x * g x) := ⟨a, g, h, rfl⟩
theorem polF_const (c : R) : PolF 0 c (fun _ => c) := rfl
theorem polF_factor : ∀ (n : Nat) {c : R} {f : R → R}, PolF (n + 1) c f → ∀ r, ∃ h, PolF n c h ∧ ∀ d, f (r + d) = f r + d * h (r + d)
  | 0, c, f, hf, r => by
    obtain ⟨a, g, hg, rfl⟩ := hf
    have hg : g = fun _ => c := hg
    subst hg
    refine ⟨fun _ => c, rfl, fun d => ?_⟩
    show a + (r + d) * c = a + r * c + d * c
    rw [addm, aassoc]
  | n + 1, c, f, hf, r => by
    obtain ⟨a, g, hg, rfl⟩ := hf
    obtain ⟨h, hh, he⟩ := polF_factor n hg r
    refine ⟨fun x => g r + x * h x, polF_step _ hh, fun d => ?_⟩
    show a + (r + d) * g (r + d) = a + r * g r + d * (g r + (r + d) * h (r + d))
    rw [he d, madd, addm, madd, aassoc, aassoc, mlcomm d]
/-- no more roots than the degree tells -/
theorem roots_le (dom : ∀ a b : R, a * b = o → a = o ∨ b = o) : ∀ (n : Nat) {c : R} {f : R → R}, PolF n c f → c ≠ o → ∀ l : List R, l.Nodup → (∀ x, x ∈ l → f x = o) → l.length ≤ n
  | _, _, _, _, _, [], _, _ => Nat.zero_le _
  | 0, c, f, hf, hc, r :: l, _, hr => by
    have := hr r (List.mem_cons_self ..)
    rw [show f = fun _ => c from hf] at this
    exact absurd this hc
  | n + 1, c, f, hf, hc, r :: l, hn, hr => by
    obtain ⟨h, hh, he⟩ := polF_factor n hf r
    rw [List.nodup_cons] at hn
    have h0 := hr r (List.mem_cons_self ..)
    have := roots_le dom n hh hc l hn.2 (fun x hx => by
      obtain ⟨d, hd⟩ := diff x r
      have h1 := hr x (List.mem_cons_of_mem _ hx)
      rw [hd, he d, h0, oadd] at h1
      rcases dom _ _ h1 with h2 | h2
      · exfalso
        rw [h2, addo] at hd
        rw [hd] at hx
        exact hn.1 hx
      · rw [hd]; exact h2)
    show l.length + 1 ≤ n + 1
    omega
theorem polF_pw : ∀ n, PolF n (e : R) (fun x => pw x n)
  | 0 => polF_const e
  | n + 1 => by
    have := polF_step o (polF_pw n : PolF n (e : R) _)
    have h : (fun x : R => o + x * pw x n) = fun x => pw x (n + 1) := by funext x; exact oadd _
    rwa [h] at this
theorem polF_fix (n : Nat) : PolF (n + 2) (e : R) (fun x => -x + pw x (n + 2)) := by
  have h1 := polF_step o (polF_step (-e) (polF_pw n : PolF n (e : R) _))
  have h : (fun x : R => o + x * (-e + x * pw x n)) = fun x => -x + pw x (n + 2) := by
    funext x
    rw [oadd, madd]
    have : x * -e = -x := by
      have h2 : x + x * -e = x + -x := by
        have h3 : x + x * -e = x * (e + -e) := by rw [madd, mule]
        rw [h3, acomm e, nadd, mulo, acomm x, nadd]
      exact cancel h2
    rw [this]; rfl
  rwa [h] at h1
theorem nodup_le {α : Type} : ∀ (l E : List α), l.Nodup → (∀ x, x ∈ l → x ∈ E) → l.length ≤ E.length
  | [], _, _, _ => Nat.zero_le _
  | a :: l, E, hn, hs => by
    rw [List.nodup_cons] at hn
    obtain ⟨s, t, rfl⟩ := List.append_of_mem (hs a (List.mem_cons_self ..))
    have := nodup_le l (s ++ t) hn.2 (fun x hx => by
      have := hs x (List.mem_cons_of_mem _ hx)
      simp only [List.mem_append, List.mem_cons] at this ⊢
      rcases this with h | h | h
      · exact .inl h
      · subst h; exact absurd hx hn.1
      · exact .inr h)
    simp only [List.length_append, List.length_cons] at this ⊢
    omega
/-- x^(p^i) -/
def fr' (p : Nat) (i : Nat) (x : R) : R := pw x (p ^ i)
theorem fr_s (p i : Nat) (x : R) : fr' p (i + 1) x = pw (fr' p i x) p := by
  unfold fr'; rw [pw_pw, Nat.pow_succ]
theorem fr_z (p : Nat) (x : R) : fr' p 0 x = x := by
  show x * e = x; exact mule x
theorem fr_add (p i : Nat) (x : R) : ∀ j, fr' p (i + j) x = fr' p j (fr' p i x) := by
  intro j
  unfold fr'
  rw [pw_pw, Nat.pow_add]
theorem fr_sum {p : Nat} (hp : p = 2 ∨ p = 3 ∨ p = 5 ∨ p = 7) (hc : nm p (e : R) = o) (x y : R) : ∀ i, fr' p i (x + y) = fr' p i x + fr' p i y
  | 0 => by rw [fr_z, fr_z, fr_z]
  | i + 1 => by rw [fr_s, fr_sum hp hc x y i, frob_add hp hc, ← fr_s, ← fr_s]
theorem fr_mul (p i : Nat) (x y : R) : fr' p i (x * y) = fr' p i x * fr' p i y := pw_mul x y _
theorem fr_one (p i : Nat) : fr' p i (e : R) = e := pw_one _
theorem pw_o {n : Nat} (h : 0 < n) : pw (o : R) n = o := by
  obtain ⟨m, rfl⟩ : ∃ m, n = m + 1 := ⟨n - 1, by omega⟩
  exact omul _
theorem fr_o {p : Nat} (hp : 0 < p) (i : Nat) : fr' p i (o : R) = o := pw_o (Nat.pow_pos hp)
theorem fr_nm {p : Nat} (hp : p = 2 ∨ p = 3 ∨ p = 5 ∨ p = 7) (hc : nm p (e : R) = o) (i : Nat) : ∀ k, fr' p i (nm k (e : R)) = nm k e
  | 0 => fr_o (by omega) i
  | k + 1 => by show fr' p i (nm k e + e) = nm k e + e; rw [fr_sum hp hc, fr_nm hp hc i k, fr_one]
/-- the sum of c(i) x^i -/
def pe : List Nat → R → R
  | [], _ => o
  | c :: cs, x => nm c e + x * pe cs x
theorem fr_pe {p : Nat} (hp : p = 2 ∨ p = 3 ∨ p = 5 ∨ p = 7) (hc : nm p (e : R) = o) (i : Nat) (x : R) : ∀ cs, fr' p i (pe cs x) = pe cs (fr' p i x)
  | [] => fr_o (by omega) i
  | c :: cs => by
    show fr' p i (nm c e + x * pe cs x) = nm c e + fr' p i x * pe cs (fr' p i x)
    rw [fr_sum hp hc, fr_nm hp hc, fr_mul, fr_pe hp hc i x cs]
theorem polF_pe : ∀ (cs : List Nat), PolF cs.length (e : R) (pe (cs ++ [1]))
  | [] => by
    have : pe [1] = fun _ : R => (e : R) := by funext x; show nm 1 e + x * o = e; rw [mulo, addo, nm_one]
    show PolF 0 e (pe [1])
    rw [this]; exact polF_const e
  | c :: cs => polF_step _ (polF_pe cs)
section
variable (dom : ∀ a b : R, a * b = o → a = o ∨ b = o)
include dom
theorem fr_inj {p : Nat} (hp : p = 2 ∨ p = 3 ∨ p = 5 ∨ p = 7) (hc : nm p (e : R) = o) {i : Nat} {x y : R} (h : fr' p i x = fr' p i y) : x = y := by
  have pw_zero : ∀ (n : Nat) (a : R), pw a n = o → a = o ∨ (e : R) = o := by
    intro n
    induction n with
    | zero => intro a h; exact .inr h
    | succ n ih =>
      intro a h
      rcases dom _ _ h with h | h
      · exact .inl h
      · exact ih a h
  obtain ⟨d, hd⟩ := diff x y
  rw [hd, fr_sum hp hc] at h
  have h2 : fr' p i y + fr' p i d = fr' p i y + o := by rw [h, addo]
  rcases pw_zero _ _ (cancel h2) with h3 | h3
  · rw [hd, h3, addo]
  · rw [← emul x, ← emul y, h3, omul, omul]
/-- what is left alone by the power p^n of all has at most p^n elements -/
theorem fix_all {p n : Nat} (hp : p = 2 ∨ p = 3 ∨ p = 5 ∨ p = 7) (hne : (e : R) ≠ o) (hn : 1 ≤ n) (l : List R) (hl : l.Nodup) (h : ∀ x, x ∈ l → fr' p n x = x) : l.length ≤ p ^ n := by
  have h2 : 2 ≤ p ^ n := by
    have h3 : p ^ 1 ≤ p ^ n := Nat.pow_le_pow_right (by omega) hn
    rw [Nat.pow_one] at h3
    omega
  obtain ⟨k, hk⟩ : ∃ k, p ^ n = k + 2 := ⟨p ^ n - 2, by omega⟩
  have := roots_le dom (k + 2) (polF_fix k) hne l hl (fun x hx => by
    have := h x hx
    unfold fr' at this
    rw [hk] at this
    rw [this, nadd])
  omega
/-- T to the power p^d is T, and no lesser one, if T generates d digits -/
theorem field_main {p d : Nat} (hp : p = 2 ∨ p = 3 ∨ p = 5 ∨ p = 7) (hc : nm p (e : R) = o) (hne : (e : R) ≠ o) (t : R)
    (E : List R) (hE : E.Nodup) (hlen : E.length = p ^ d) (hall : ∀ x : R, x ∈ E) (hcs : ∀ x : R, ∃ cs, x = pe cs t) (P : List Nat) (hP : P.length = d) (hroot : pe (P ++ [1]) t = o) :
    fr' p d t = t ∧ ∀ n, 1 ≤ n → fr' p n t = t → d ≤ n := by
  have low : ∀ n, 1 ≤ n → fr' p n t = t → d ≤ n := by
    intro n hn ht
    have h1 := fix_all dom hp hne hn E hE (fun x _ => by
      obtain ⟨cs, rfl⟩ := hcs x
      rw [fr_pe hp hc, ht])
    rw [hlen] at h1
    by_cases h : d ≤ n
    · exact h
    · exfalso
      have : p ^ n < p ^ d := Nat.pow_lt_pow_right (by omega) (by omega)
      omega
  refine ⟨?_, low⟩
  -- some power comes back
  have hex : ∃ k, 1 ≤ k ∧ fr' p k t = t := by
    by_cases h : ((List.range (E.length + 1)).map fun i => fr' p i t).Nodup
    · have := nodup_le _ E h (fun x _ => hall x)
      simp at this
      omega
    · apply Classical.byContradiction
      intro hno
      apply h
      rw [List.nodup_iff_pairwise_ne, List.pairwise_map]
      refine List.Pairwise.imp ?_ List.pairwise_lt_range
      intro i j hij heq
      apply hno
      refine ⟨j - i, by omega, ?_⟩
      have : fr' p j t = fr' p i (fr' p (j - i) t) := by rw [← fr_add, show j - i + i = j by omega]
      rw [this] at heq
      exact (fr_inj dom hp hc heq).symm
  -- the least one
  have hmin : ∃ k, 1 ≤ k ∧ fr' p k t = t ∧ ∀ j, 1 ≤ j → j < k → fr' p j t ≠ t := by
    obtain ⟨k, hk⟩ := hex
    induction k using Nat.strongRecOn with
    | _ k ih =>
      by_cases h : ∃ j, 1 ≤ j ∧ j < k ∧ fr' p j t = t
      · obtain ⟨j, h1, h2, h3⟩ := h
        exact ih j h2 ⟨h1, h3⟩
      · exact ⟨k, hk.1, hk.2, fun j h1 h2 h3 => h ⟨j, h1, h2, h3⟩⟩
  obtain ⟨k, hk1, hk2, hk3⟩ := hmin
  have hle := roots_le dom _ (polF_pe P) hne ((List.range k).map fun i => fr' p i t) (by
    rw [List.nodup_iff_pairwise_ne, List.pairwise_map]
    refine List.Pairwise.imp_of_mem ?_ List.pairwise_lt_range
    intro i j hi hj hij heq
    have hj' : j < k := by simpa using hj
    have : fr' p j t = fr' p i (fr' p (j - i) t) := by rw [← fr_add, show j - i + i = j by omega]
    rw [this] at heq
    exact hk3 (j - i) (by omega) (by omega) (fr_inj dom hp hc heq).symm) (by
    intro x hx
    obtain ⟨i, _, rfl⟩ := List.mem_map.1 hx
    rw [← fr_pe hp hc, hroot, fr_o (by omega)])
  rw [List.length_map, List.length_range, hP] at hle
  have := low k hk1 hk2
  have e : k = d := by omega
  rw [← e]; exact hk2
end
end Rg
end Go.Proofs.Ytkaaffccklkafaa
