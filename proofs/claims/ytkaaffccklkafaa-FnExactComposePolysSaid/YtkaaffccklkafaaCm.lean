/-
  Plain mathematics: one polynomial in another, by Horner's way.
-/
import Derived.Test.YtkaaffccklkafaaBz
namespace Go.Proofs.Ytkaaffccklkafaa
attribute [local irreducible] deg invN
/-- f with g for T, from the degree n downwards, behind j steps -/
def cmR (p : Nat) (f g : Nat → Nat) (n : Nat) : Nat → Nat → Nat
  | 0 => fun _ => 0
  | j + 1 => fun k => (prd p (cmR p f g n j) g k + (if k = 0 then f (n - j) else 0)) % p
theorem cmR_z (p : Nat) (f g : Nat → Nat) (n : Nat) : cmR p f g n 0 = fun _ => 0 := rfl
theorem cmR_s (p : Nat) (f g : Nat → Nat) (n j : Nat) : cmR p f g n (j + 1) = fun k => (prd p (cmR p f g n j) g k + (if k = 0 then f (n - j) else 0)) % p := rfl
theorem cmR_lt {p : Nat} {f g : Nat → Nat} {n : Nat} (hp : 0 < p) : ∀ j k, cmR p f g n j k < p
  | 0, _ => hp
  | _ + 1, _ => Nat.mod_lt _ hp
theorem cmR_upd {p : Nat} {f g : Nat → Nat} {n : Nat} (hp : 0 < p) (j : Nat) : ∀ k, upd (prd p (cmR p f g n j) g) 0 ((prd p (cmR p f g n j) g 0 + f (n - j)) % p) k = cmR p f g n (j + 1) k := by
  intro k
  show upd (prd p (cmR p f g n j) g) 0 ((prd p (cmR p f g n j) g 0 + f (n - j)) % p) k = (prd p (cmR p f g n j) g k + (if k = 0 then f (n - j) else 0)) % p
  unfold upd
  by_cases h : k = 0
  · subst h; rw [if_pos rfl, if_pos rfl]
  · rw [if_neg h, if_neg h, Nat.add_zero, Nat.mod_eq_of_lt (prd_lt hp k)]
theorem cmR_deg {p : Nat} {f g : Nat → Nat} {n m : Nat} (hp : 0 < p) (hm : deg g = (m : Int)) : ∀ j, deg (cmR p f g n (j + 1)) ≤ ((j * m : Nat) : Int)
  | 0 => deg_le (by omega) (fun k hk _ => by
      rw [cmR_s, cmR_z]
      show (prd p (fun _ => 0) g k + if k = 0 then f (n - 0) else 0) % p = 0
      rw [prd_zero_left hp (fun _ _ => rfl), if_neg (by omega), Nat.add_zero, Nat.zero_mod])
  | j + 1 => by
    have ih := cmR_deg (f := f) (n := n) hp hm j
    refine deg_le (by omega) (fun k hk _ => ?_)
    have e : ((j + 1) * m : Nat) = j * m + m := Nat.succ_mul j m
    rw [e] at hk
    rw [cmR_s]
    show (prd p (cmR p f g n (j + 1)) g k + if k = 0 then f (n - (j + 1)) else 0) % p = 0
    rw [prd_above hp (by omega), if_neg (by omega), Nat.add_zero, Nat.zero_mod]
/-- each step's product stays within the limit -/
theorem cmR_fits {p : Nat} {f g : Nat → Nat} {n m : Nat} (hp : 0 < p) (hm : deg g = (m : Int)) (hnm : n * m ≤ 63) {j : Nat} (hj : j ≤ n) : deg (cmR p f g n j) + deg g ≤ 63 := by
  cases j with
  | zero =>
    have : deg (cmR p f g n 0) < 0 := deg_neg_iff.2 (fun _ _ => rfl)
    obtain ⟨_, h2⟩ := deg_bounds g
    omega
  | succ j =>
    have h := cmR_deg (f := f) (n := n) hp hm j
    have h2 : (j + 1) * m ≤ n * m := Nat.mul_le_mul_right m hj
    have e : ((j + 1) * m : Nat) = j * m + m := Nat.succ_mul j m
    omega
theorem prd_at0 {p : Nat} {f g : Nat → Nat} (hp : 0 < p) : prd p f g 0 = f 0 * g 0 % p := by
  have h : ∀ d, cv p (cut f) (cut g) (1 + d) 0 = f 0 * g 0 % p := by
    intro d
    induction d with
    | zero => rw [cv_succ, cv_zero, if_pos (Nat.le_refl _), Nat.zero_add, Nat.sub_zero, cut_in f (by omega), cut_in g (by omega)]
    | succ d ih => rw [← Nat.add_assoc, cv_same hp (fun h => by omega), ih]
  exact h 63
/-- a number for T -/
theorem cmR_const {p : Nat} {f g : Nat → Nat} {n : Nat} (hp : 0 < p) (hg : deg g ≤ 0) (hn : n < 64) : ∀ j, j ≤ n + 1 → (∀ k, 0 < k → k < 64 → cmR p f g n j k = 0) ∧ (hrN p (g 0) f (63 - n) = 0 → cmR p f g n j 0 = hrN p (g 0) f (63 - n + j))
  | 0, _ => ⟨fun _ _ _ => rfl, fun h => by rw [Nat.add_zero, h]; rfl⟩
  | j + 1, hj => by
    obtain ⟨h1, h2⟩ := cmR_const (f := f) hp hg hn j (by omega)
    have hd : deg (cmR p f g n j) ≤ 0 := deg_le (by omega) (fun k hk hk2 => h1 k (by omega) hk2)
    refine ⟨fun k hk hk2 => ?_, fun h0 => ?_⟩
    · rw [cmR_s]
      show (prd p (cmR p f g n j) g k + if k = 0 then f (n - j) else 0) % p = 0
      rw [prd_above hp (by omega), if_neg (by omega), Nat.add_zero, Nat.zero_mod]
    · rw [cmR_s, ← Nat.add_assoc, hrN_succ]
      show (prd p (cmR p f g n j) g 0 + if (0 : Nat) = 0 then f (n - j) else 0) % p = _
      rw [if_pos rfl, prd_at0 hp, h2 h0, Nat.mod_add_mod, show 63 - (63 - n + j) = n - j by omega]
/-- what is returned for polynomials -/
def cmV (p : Int) (f g : Nat → Nat) : (Nat → Nat) × Int := if codeL p [f, g] = 0 then (if deg f * deg g ≤ 63 then (cmR p.toNat f g (deg f).toNat (deg f + 1).toNat, 0) else (fun _ => 0, 3)) else (fun _ => 0, 1)
theorem cmV_ok {n : Nat} {f g : Nat → Nat} (h : codeL (n : Int) [f, g] = 0) (h2 : deg f * deg g ≤ 63) : cmV (n : Int) f g = (cmR n f g (deg f).toNat (deg f + 1).toNat, 0) := by
  unfold cmV; rw [if_pos h, if_pos h2]; rfl
theorem cmV_lim {n : Nat} {f g : Nat → Nat} (h : codeL (n : Int) [f, g] = 0) (h2 : ¬ deg f * deg g ≤ 63) : cmV (n : Int) f g = (fun _ => 0, 3) := by
  unfold cmV; rw [if_pos h, if_neg h2]
theorem cmV_bad {p : Int} {f g : Nat → Nat} (h : codeL p [f, g] = 1) : cmV p f g = (fun _ => 0, 1) := by
  unfold cmV; rw [if_neg (by rw [h]; decide)]
end Go.Proofs.Ytkaaffccklkafaa
