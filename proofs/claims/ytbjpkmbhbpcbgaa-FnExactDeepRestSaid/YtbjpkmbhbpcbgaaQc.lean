/-
  Plain mathematics: the Carlitz action on residues, by Horner's way and by powers.
-/
import Derived.Test.YtbjpkmbhbpcbgaaWr
set_option linter.unusedVariables false
namespace Go.Proofs.Ytbjpkmbhbpcbgaa
namespace Rg
variable {R : Type} [Rg R]
/-- the action of T -/
def sR (t : R) (p : Nat) (x : R) : R := t * x + pw x p
theorem sR_add {p : Nat} (hp : p = 2 ∨ p = 3 ∨ p = 5 ∨ p = 7) (hc : nm p (e : R) = o) (t x y : R) : sR t p (x + y) = sR t p x + sR t p y := by
  unfold sR
  rw [frob_add hp hc, madd, aassoc, aassoc, alcomm (t * y)]
theorem sR_o {p : Nat} (hp : 0 < p) (t : R) : sR t p o = o := by
  unfold sR
  rw [mulo, pw_o hp, oadd]
theorem sR_nm {p : Nat} (hp : p = 2 ∨ p = 3 ∨ p = 5 ∨ p = 7) (hc : nm p (e : R) = o) (t x : R) : ∀ k, sR t p (nm k x) = nm k (sR t p x)
  | 0 => sR_o (by omega) t
  | k + 1 => by
    show sR t p (nm k x + x) = nm k (sR t p x) + sR t p x
    rw [sR_add hp hc, sR_nm hp hc t x k]
/-- the action by Horner's way, and by powers -/
def hrR (t : R) (p : Nat) (x : R) : List Nat → R
  | [] => o
  | c :: cs => sR t p (hrR t p x cs) + nm c x
def smR (t : R) (p : Nat) : List Nat → R → R
  | [], _ => o
  | c :: cs, y => nm c y + smR t p cs (sR t p y)
theorem smR_s {p : Nat} (hp : p = 2 ∨ p = 3 ∨ p = 5 ∨ p = 7) (hc : nm p (e : R) = o) (t : R) : ∀ (cs : List Nat) (y : R), smR t p cs (sR t p y) = sR t p (smR t p cs y)
  | [], y => (sR_o (by omega) t).symm
  | c :: cs, y => by
    show nm c (sR t p y) + smR t p cs (sR t p (sR t p y)) = sR t p (nm c y + smR t p cs (sR t p y))
    rw [sR_add hp hc, sR_nm hp hc, smR_s hp hc t cs (sR t p y)]
theorem hr_sm {p : Nat} (hp : p = 2 ∨ p = 3 ∨ p = 5 ∨ p = 7) (hc : nm p (e : R) = o) (t x : R) : ∀ cs, hrR t p x cs = smR t p cs x
  | [] => rfl
  | c :: cs => by
    show sR t p (hrR t p x cs) + nm c x = nm c x + smR t p cs (sR t p x)
    rw [hr_sm hp hc t x cs, smR_s hp hc, acomm]
/-- S, many times -/
def itR (t : R) (p : Nat) : Nat → R → R
  | 0, y => y
  | k + 1, y => sR t p (itR t p k y)
theorem itR_in (t : R) (p : Nat) (y : R) : ∀ k, itR t p k (sR t p y) = sR t p (itR t p k y)
  | 0 => rfl
  | k + 1 => by
    show sR t p (itR t p k (sR t p y)) = sR t p (sR t p (itR t p k y))
    rw [itR_in t p y k]
theorem smR_snoc (t : R) (p c : Nat) : ∀ (cs : List Nat) (y : R), smR t p (cs ++ [c]) y = smR t p cs y + nm c (itR t p cs.length y)
  | [], y => by
    show nm c y + o = o + nm c y
    rw [acomm]
  | b :: cs, y => by
    show nm b y + smR t p (cs ++ [c]) (sR t p y) = nm b y + smR t p cs (sR t p y) + nm c (sR t p (itR t p cs.length y))
    rw [smR_snoc t p c cs, aassoc, itR_in]
end Rg
open Rg
section
variable {p : Nat} {m : Nat → Int}
theorem res_char : nm p (e : Res p m) = o := by
  rw [nm_cl]
  exact cl_eq.2 (rm_of_cg fun k => by
    unfold zS
    split
    · exact ⟨1, by omega⟩
    · exact ⟨0, by omega⟩)
/-- the class of a polynomial -/
def rs (f : Nat → Nat) : Res p m := cl (lz f) (fin_lz f)
theorem nm_rs (c : Nat) {f : Nat → Int} (hf : fin f) : nm c (cl f hf : Res p m) = cl (cz (c : Int) f) (fin_cz _ hf) := by
  have h1 : nm c (cl f hf : Res p m) = nm c e * cl f hf := by rw [nm_mul, emul]
  rw [h1, nm_cl]
  refine cl_eq.2 (rm_of_cg fun k => ⟨0, ?_⟩)
  have := mz_mono (c : Int) 0 f k
  rw [this, if_pos (Nat.zero_le _), Nat.sub_zero]
  unfold cz; omega
theorem rs_addK {f g : Nat → Nat} {c : Nat} (hp : 0 < p) : (rs (addK p f g (c : Int)) : Res p m) = rs f + nm c (rs g) := by
  unfold rs
  rw [nm_rs]
  exact cl_eq.2 (rm_of_cg (addK_cg hp))
theorem rs_add {f g : Nat → Nat} (hp : 0 < p) : (rs (addK p f g 1) : Res p m) = rs f + rs g := by
  have := rs_addK (m := m) (f := f) (g := g) (c := 1) hp
  rw [nm_one] at this; exact this
theorem rs_scl {f : Nat → Nat} {c : Nat} : (rs (sclP p f c) : Res p m) = nm c (rs f) := by
  unfold rs
  rw [nm_rs]
  exact cl_eq.2 (rm_of_cg (sclP_cg f c))
theorem rs_prd {f g : Nat → Nat} (hp : 0 < p) (h : deg f + deg g ≤ 63) : (rs (prd p f g) : Res p m) = rs f * rs g := cl_eq.2 (rm_of_cg (prd_cg hp h))
theorem rs_zero : (rs (fun _ => 0) : Res p m) = o := cl_eq.2 (rm_of_cg fun k => by unfold lz cut zS; simp)
end
theorem rs_TP {p : Nat} {m : Nat → Int} : (rs TP : Res p m) = tt := cl_congr lz_TP
theorem rs_res {p : Nat} {f m : Nat → Nat} (hp : p = 2 ∨ p = 3 ∨ p = 5 ∨ p = 7) (ha : ∀ k, k < 64 → f k < p) (hm : ∀ k, k < 64 → m k < p) (h0 : 0 ≤ deg m) : (rs (resP p f m) : Res p (lz m)) = rs f := cl_eq.2 (rm_symm (res_rm hp ha hm h0))
theorem rs_mm {p : Nat} {a b m : Nat → Nat} (hp : p = 2 ∨ p = 3 ∨ p = 5 ∨ p = 7) (hm : ∀ k, k < 64 → m k < p) (h0 : 0 ≤ deg m) : (rs (mmP p a b m) : Res p (lz m)) = rs a * rs b := cl_eq.2 (rm_symm (mmP_rm hp hm h0))
theorem rs_pm {p k : Nat} {a m : Nat → Nat} (hp : p = 2 ∨ p = 3 ∨ p = 5 ∨ p = 7) (ha : ∀ k, k < 64 → a k < p) (hm : ∀ k, k < 64 → m k < p) (h0 : 0 ≤ deg m) (hk : k < 2 ^ 64) : (rs (pmP p a k m) : Res p (lz m)) = pw (rs a) k := by
  unfold rs
  have : pw (cl (lz a) (fin_lz a) : Res p (lz m)) k = cl (pwz (lz a) k) (fin_pwz (fin_lz _) _) := pw_cl (fin_lz _) _
  rw [this]
  exact cl_eq.2 (pmP_spec hp ha hm h0 hk).2.2
/-- T^q in the place of T -/
def strP (q : Nat) (x : Nat → Nat) : Nat → Nat := fun k => if k % q = 0 then x (k / q) else 0
theorem strP_lt {p q : Nat} {x : Nat → Nat} (hp : 0 < p) (hq : 1 ≤ q) (hx : ∀ k, k < 64 → x k < p) (k : Nat) (hk : k < 64) : strP q x k < p := by
  unfold strP
  split
  · exact hx _ (Nat.lt_of_le_of_lt (Nat.div_le_self _ _) hk)
  · exact hp
def srq (q : Nat) (cs : List Nat) : Nat → Int := fun k => if k % q = 0 then ((cs.getD (k / q) 0 : Nat) : Int) else 0
theorem fin_srq {q : Nat} (hq : 0 < q) (cs : List Nat) : fin (srq q cs) := ⟨cs.length * q, fun k hk => by
  unfold srq
  split
  · have : cs.length ≤ k / q := (Nat.le_div_iff_mul_le hq).2 hk
    simp [this]
  · rfl⟩
theorem mz_TSq (f : Nat → Int) : ∀ q, mz (pwz TS q) f = fun k => if k < q then 0 else f (k - q)
  | 0 => by
    have : pwz TS 0 = oneS := rfl
    rw [this]
    have := mz_one f
    rw [show mz oneS f = f from this]
    funext k; rw [if_neg (by omega), Nat.sub_zero]
  | q + 1 => by
    have h1 : pwz TS (q + 1) = mz (pwz TS q) TS := rfl
    have h2 : mz (mz (pwz TS q) TS) f = mz (pwz TS q) (mz TS f) := mz_assoc _ _ _
    rw [h1, h2, mz_TSq (mz TS f) q, mz_TS]
    funext k
    by_cases h : k < q
    · rw [if_pos h, if_pos (by omega)]
    · rw [if_neg h]
      dsimp only
      by_cases h3 : k = q
      · rw [if_pos (by omega), if_pos (by omega)]
      · rw [if_neg (by omega), if_neg (by omega), Nat.sub_sub]
theorem pe_srq {p : Nat} {m : Nat → Int} {q : Nat} (hq : 0 < q) : ∀ cs : List Nat, (pe cs (pw tt q) : Res p m) = cl (srq q cs) (fin_srq hq cs)
  | [] => by
    show (o : Res p m) = _
    refine cl_congr ?_
    funext k; unfold srq zS; simp
  | c :: cs => by
    show nm c e + pw tt q * pe cs (pw tt q) = _
    rw [pe_srq hq cs, nm_cl]
    have h1 : (pw tt q : Res p m) = cl (pwz TS q) (fin_pwz fin_TS _) := pw_cl fin_TS _
    rw [h1]
    refine cl_congr (?_ : az _ (mz _ _) = _)
    rw [mz_TSq]
    funext k
    show (if k = 0 then (c : Int) else 0) + (if k < q then 0 else srq q cs (k - q)) = srq q (c :: cs) k
    unfold srq
    by_cases h : k < q
    · rw [if_pos h]
      by_cases h0 : k = 0
      · subst h0; simp
      · have e1 : k % q = k := Nat.mod_eq_of_lt h
        rw [if_neg h0, e1, if_neg h0]; rfl
    · have h0 : ¬ k = 0 := by omega
      obtain ⟨j, rfl⟩ : ∃ j, k = j + q := ⟨k - q, by omega⟩
      rw [if_neg h, if_neg h0, Nat.add_sub_cancel, Nat.add_mod_right, Nat.add_div_right _ hq]
      split
      · simp
      · rfl
theorem rs_list {p : Nat} {m : Nat → Int} (f : Nat → Nat) : (rs f : Res p m) = pe ((List.range 64).map f) tt := by
  rw [pe_cl]
  refine cl_congr ?_
  funext k; unfold lz cut ser
  by_cases h : k < 64
  · simp [h]
  · simp [h]
theorem rs_str {p : Nat} {m : Nat → Int} {x : Nat → Nat} (hp : p = 2 ∨ p = 3 ∨ p = 5 ∨ p = 7) (h : deg x * (p : Int) ≤ 63) : (rs (strP p x) : Res p m) = pw (rs x) p := by
  have hp0 : 0 < p := by omega
  have h1 := fr_pe (R := Res p m) hp res_char 1 tt ((List.range 64).map x)
  unfold fr' at h1
  rw [Nat.pow_one] at h1
  rw [rs_list x, h1, pe_srq hp0]
  refine cl_congr ?_
  funext k
  unfold lz cut strP srq
  by_cases hk : k < 64
  · rw [if_pos hk]
    split
    · have : k / p < 64 := Nat.lt_of_le_of_lt (Nat.div_le_self _ _) hk
      simp [this]
    · rfl
  · rw [if_neg hk]
    split
    · rename_i hm
      by_cases h2 : k / p < 64
      · have e1 := Nat.div_add_mod k p
        have e3 : x (k / p) = 0 := by
          rcases deg_spec x with ⟨_, h5⟩ | ⟨d, hd, h4, _, h5⟩
          · exact h5 _ h2
          · refine h5 _ ?_ h2
            rw [h4] at h
            have h6 : d * p ≤ 63 := by exact_mod_cast h
            apply Classical.byContradiction
            intro h7
            have := Nat.mul_le_mul_right p (show k / p ≤ d by omega)
            rw [Nat.mul_comm p] at e1
            omega
        simp [h2, e3]
      · simp [h2]
    · rfl
/-- what T makes of a residue -/
def stP (p : Nat) (m x : Nat → Nat) : Nat → Nat := addK p (mmP p (resP p TP m) x m) (pmP p x p m) 1
theorem deg_addK {p : Nat} {f g : Nat → Nat} {c d : Int} (hp : 0 < p) (hd : 0 ≤ d) (hf : deg f < d) (hg : deg g < d) : deg (addK p f g c) < d := by
  have : deg (addK p f g c) ≤ d - 1 := by
    refine deg_le (by omega) (fun k h1 h2 => ?_)
    have above : ∀ (f : Nat → Nat), deg f < d → f k = 0 := by
      intro f hf
      rcases deg_spec f with ⟨_, h5⟩ | ⟨j, hj, h4, _, h5⟩
      · exact h5 _ h2
      · exact h5 _ (by omega) h2
    unfold addK
    rw [above f hf, above g hg]
    simp
  omega
section
variable {p : Nat} {m : Nat → Nat} (hp : p = 2 ∨ p = 3 ∨ p = 5 ∨ p = 7) (hm : ∀ k, k < 64 → m k < p) (h0 : 0 ≤ deg m)
include hp hm h0
theorem stP_ok {x : Nat → Nat} (hx : ∀ k, k < 64 → x k < p) : (∀ k, stP p m x k < p) ∧ deg (stP p m x) < deg m ∧ (rs (stP p m x) : Res p (lz m)) = sR tt p (rs x) := by
  have hp0 : 0 < p := by omega
  refine ⟨fun k => addK_lt hp0 k, ?_, ?_⟩
  · exact deg_addK hp0 h0 (mmP_deg hp hm h0) (pmP_spec hp hx hm h0 (by omega)).2.1
  · unfold stP sR
    rw [rs_add hp0, rs_mm hp hm h0, rs_res hp (fun k _ => TP_lt (by omega) k) hm h0, rs_TP, rs_pm hp hx hm h0 (by omega)]
/-- the program's own way -/
def stI (p : Nat) (m x : Nat → Nat) : Nat → Nat := addK p (addK p (fun _ => 0) (resP p (prd p TP x) m) 1) (resP p (strP p x) m) 1
theorem stI_eq {x : Nat → Nat} (h5 : deg m ≤ 9) (hx : ∀ k, k < 64 → x k < p) (hd : deg x < deg m) : ∀ k, k < 64 → stI p m x k = stP p m x k := by
  have hp0 : 0 < p := by omega
  have hT : deg TP ≤ 1 := deg_le (by omega) (fun k h1 h2 => by unfold TP; rw [if_neg (by omega)])
  have hpr : ∀ k, k < 64 → prd p TP x k < p := fun k _ => prd_lt hp0 k
  have hst : ∀ k, k < 64 → strP p x k < p := strP_lt hp0 (by omega) hx
  obtain ⟨a1, a2, a3⟩ := stP_ok hp hm h0 hx
  have hdx : deg x * (p : Int) ≤ 63 := by
    rcases hp with rfl | rfl | rfl | rfl <;> omega
  refine res_sameN hp (fun k _ => addK_lt hp0 k) (fun k _ => a1 k) hm h0 ?_ a2 (cl_eq.1 (?_ : (rs (stI p m x) : Res p (lz m)) = rs (stP p m x)))
  · refine deg_addK hp0 h0 (deg_addK hp0 h0 ?_ (resP_deg hp hpr hm h0).1) (resP_deg hp hst hm h0).1
    have : deg (fun _ => 0) < 0 := deg_neg_iff.2 fun _ _ => rfl
    omega
  · rw [a3]
    unfold stI sR
    rw [rs_add hp0, rs_add hp0, rs_zero, oadd, rs_res hp hpr hm h0, rs_res hp hst hm h0, rs_prd hp0 (by omega), rs_TP, rs_str hp hdx]
/-- the action by Horner's way -/
def acH (p : Nat) (m a x : Nat → Nat) (n : Nat) : Nat → (Nat → Nat)
  | 0 => fun _ => 0
  | j + 1 => addK p (stP p m (acH p m a x n j)) (sclP p x (a (n - j))) 1
/-- the action by powers: the sum, and the power that comes next -/
def acN (p : Nat) (m x : Nat → Nat) : Nat → (Nat → Nat)
  | 0 => x
  | k + 1 => stP p m (acN p m x k)
def acS (p : Nat) (m a x : Nat → Nat) : Nat → (Nat → Nat)
  | 0 => fun _ => 0
  | k + 1 => addK p (acS p m a x k) (acN p m x k) (a k : Int)
def lsC (a : Nat → Nat) (i j : Nat) : List Nat := (List.range' i j).map a
theorem acH_ok {a x : Nat → Nat} {n : Nat} (hx : ∀ k, k < 64 → x k < p) (hd : deg x < deg m) : ∀ j, j ≤ n + 1 → (∀ k, acH p m a x n j k < p) ∧ deg (acH p m a x n j) < deg m ∧ (rs (acH p m a x n j) : Res p (lz m)) = hrR tt p (rs x) (lsC a (n + 1 - j) j)
  | 0, _ => by
    have hp0 : 0 < p := by omega
    refine ⟨fun _ => hp0, ?_, ?_⟩
    · have : deg (fun _ => 0) < 0 := deg_neg_iff.2 fun _ _ => rfl
      show deg (fun _ => 0) < deg m
      omega
    · exact rs_zero
  | j + 1, hj => by
    have hp0 : 0 < p := by omega
    obtain ⟨b1, b2, b3⟩ := acH_ok (a := a) (n := n) hx hd j (by omega)
    obtain ⟨c1, c2, c3⟩ := stP_ok hp hm h0 (x := acH p m a x n j) (fun k _ => b1 k)
    refine ⟨fun k => addK_lt hp0 k, ?_, ?_⟩
    · refine deg_addK hp0 h0 c2 ?_
      have : deg (sclP p x (a (n - j))) = deg (addK p (fun _ => 0) x (a (n - j) : Int)) := by rw [addK_scl]
      rw [this]
      refine deg_addK hp0 h0 ?_ hd
      have : deg (fun _ => 0) < 0 := deg_neg_iff.2 fun _ _ => rfl
      omega
    · show (rs (addK p (stP p m (acH p m a x n j)) (sclP p x (a (n - j))) 1) : Res p (lz m)) = _
      rw [rs_add hp0, c3, b3, rs_scl]
      have e1 : lsC a (n + 1 - (j + 1)) (j + 1) = a (n - j) :: lsC a (n + 1 - j) j := by
        unfold lsC
        rw [List.range'_succ, List.map_cons, show n + 1 - (j + 1) = n - j by omega, show n - j + 1 = n + 1 - j by omega]
      rw [e1]; rfl
theorem acN_ok {x : Nat → Nat} (hx : ∀ k, k < 64 → x k < p) (hd : deg x < deg m) : ∀ k, (∀ i, i < 64 → acN p m x k i < p) ∧ deg (acN p m x k) < deg m ∧ (rs (acN p m x k) : Res p (lz m)) = itR tt p k (rs x)
  | 0 => ⟨hx, hd, rfl⟩
  | k + 1 => by
    obtain ⟨b1, b2, b3⟩ := acN_ok hx hd k
    obtain ⟨c1, c2, c3⟩ := stP_ok hp hm h0 (x := acN p m x k) b1
    exact ⟨fun i _ => c1 i, c2, by show (rs (stP p m (acN p m x k)) : Res p (lz m)) = _; rw [c3, b3]; rfl⟩
theorem acS_ok {a x : Nat → Nat} (hx : ∀ k, k < 64 → x k < p) (hd : deg x < deg m) : ∀ k, (∀ i, acS p m a x k i < p) ∧ deg (acS p m a x k) < deg m ∧ (rs (acS p m a x k) : Res p (lz m)) = smR tt p (lsC a 0 k) (rs x)
  | 0 => by
    have hp0 : 0 < p := by omega
    refine ⟨fun _ => hp0, ?_, ?_⟩
    · have : deg (fun _ => 0) < 0 := deg_neg_iff.2 fun _ _ => rfl
      show deg (fun _ => 0) < deg m
      omega
    · exact rs_zero
  | k + 1 => by
    have hp0 : 0 < p := by omega
    obtain ⟨b1, b2, b3⟩ := acS_ok (a := a) hx hd k
    obtain ⟨c1, c2, c3⟩ := acN_ok hp hm h0 hx hd k
    refine ⟨fun i => addK_lt hp0 i, deg_addK hp0 h0 b2 c2, ?_⟩
    show (rs (addK p (acS p m a x k) (acN p m x k) (a k : Int)) : Res p (lz m)) = _
    rw [rs_addK hp0, b3, c3]
    have e1 : lsC a 0 (k + 1) = lsC a 0 k ++ [a k] := by
      unfold lsC
      rw [List.range'_1_concat, List.map_append, Nat.zero_add]; rfl
    rw [e1, smR_snoc]
    unfold lsC
    rw [List.length_map, List.length_range']
/-- both ways make the same -/
theorem ac_same {a x : Nat → Nat} {n : Nat} (hx : ∀ k, k < 64 → x k < p) (hd : deg x < deg m) : ∀ k, k < 64 → acH p m a x n (n + 1) k = acS p m a x (n + 1) k := by
  obtain ⟨b1, b2, b3⟩ := acH_ok hp hm h0 (a := a) (n := n) hx hd (n + 1) (Nat.le_refl _)
  obtain ⟨c1, c2, c3⟩ := acS_ok hp hm h0 (a := a) hx hd (n + 1)
  refine res_sameN hp (fun k _ => b1 k) (fun k _ => c1 k) hm h0 b2 c2 (cl_eq.1 (?_ : (rs (acH p m a x n (n + 1)) : Res p (lz m)) = rs (acS p m a x (n + 1))))
  rw [b3, c3, Nat.sub_self, hr_sm hp res_char]
end
end Go.Proofs.Ytbjpkmbhbpcbgaa
