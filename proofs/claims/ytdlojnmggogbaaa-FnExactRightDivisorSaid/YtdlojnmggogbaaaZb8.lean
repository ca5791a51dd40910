/-
  What the rows of this claim rest on: arrays of bytes, walks of the functions, plain mathematics.
-/
import Derived.Test.YtdlojnmggogbaaaZb7
import Derived.Great.FillDense
section
namespace Go.Proofs.Ytdlojnmggogbaaa
open Rg
set_option linter.unusedVariables false
/-- long division: T the next term, N what is left, g the degree of the divisor -/
def gdR (p : Nat) (T N : (Nat → Nat → Nat) → (Nat → Nat → Nat)) (g : Int) : Nat → (Nat → Nat → Nat) → (Nat → Nat → Nat) → (Nat → Nat → Nat) × (Nat → Nat → Nat)
 | 0, Q, F => (Q, F)
 | fu + 1, Q, F => if skD F < g then (Q, F) else gdR p T N g fu (skA p Q (T F) 1) (N F)
/-- the same with terms that are put in their places -/
def gdU (A : (Nat → Nat → Nat) → (Nat → Nat)) (N : (Nat → Nat → Nat) → (Nat → Nat → Nat)) (g : Int) : Nat → (Nat → Nat → Nat) → (Nat → Nat → Nat) → (Nat → Nat → Nat) × (Nat → Nat → Nat)
 | 0, Q, F => (Q, F)
 | fu + 1, Q, F => if skD F < g then (Q, F) else gdU A N g fu (updR Q ((skD F).toNat - g.toNat) (A F)) (N F)
theorem gdR_stop {p : Nat} {T N : (Nat → Nat → Nat) → (Nat → Nat → Nat)} {g : Int} {fu : Nat} {Q F : Nat → Nat → Nat} (h : skD F < g) : gdR p T N g fu Q F = (Q, F) := by
 cases fu with
 | zero => rfl
 | succ n => rw [gdR, if_pos h]
theorem gdR_step {p : Nat} {T N : (Nat → Nat → Nat) → (Nat → Nat → Nat)} {g : Int} {fu : Nat} {Q F : Nat → Nat → Nat} (h : ¬ skD F < g) : gdR p T N g (fu + 1) Q F = gdR p T N g fu (skA p Q (T F) 1) (N F) := by rw [gdR, if_neg h]
theorem gdU_stop {A : (Nat → Nat → Nat) → (Nat → Nat)} {N : (Nat → Nat → Nat) → (Nat → Nat → Nat)} {g : Int} {fu : Nat} {Q F : Nat → Nat → Nat} (h : skD F < g) : gdU A N g fu Q F = (Q, F) := by
 cases fu with
 | zero => rfl
 | succ n => rw [gdU, if_pos h]
theorem gdU_step {A : (Nat → Nat → Nat) → (Nat → Nat)} {N : (Nat → Nat → Nat) → (Nat → Nat → Nat)} {g : Int} {fu : Nat} {Q F : Nat → Nat → Nat} (h : ¬ skD F < g) : gdU A N g (fu + 1) Q F = gdU A N g fu (updR Q ((skD F).toNat - g.toNat) (A F)) (N F) := by rw [gdU, if_neg h]
/-- what a step of a division does -/
def GD (p : Nat) (m : Nat → Nat) (A : (Nat → Nat → Nat) → (Nat → Nat)) (T N : (Nat → Nat → Nat) → (Nat → Nat → Nat)) (g : Int) : Prop :=
 0 ≤ g ∧ ∀ F, rsk p m F → g ≤ skD F → T F = sng ((skD F).toNat - g.toNat) (A F) ∧ rsd p m (A F) ∧ 0 ≤ deg (A F) ∧ rsk p m (T F) ∧ rsk p m (N F) ∧ skD (N F) < skD F
theorem skA_rsk {p : Nat} {m : Nat → Nat} {F G : Nat → Nat → Nat} {c : Int} (hp : 0 < p) (h0 : 0 ≤ deg m) (hF : rsk p m F) (hG : rsk p m G) : rsk p m (skA p F G c) := fun i hi => addK_rsd hp h0 (hF i hi) (hG i hi)
section
variable {p : Nat} {m : Nat → Nat} {A : (Nat → Nat → Nat) → (Nat → Nat)} {T N : (Nat → Nat → Nat) → (Nat → Nat → Nat)} {g : Int} (hp : 0 < p) (h0 : 0 ≤ deg m) (H : GD p m A T N g)
include hp h0 H
theorem gdR_ok : ∀ (fu : Nat) Q F, rsk p m Q → rsk p m F → skD F < (fu : Int) → rsk p m (gdR p T N g fu Q F).1 ∧ rsk p m (gdR p T N g fu Q F).2 ∧ skD (gdR p T N g fu Q F).2 < g
 | 0, Q, F, hQ, hF, h => ⟨hQ, hF, by have := H.1; show skD F < g; omega⟩
 | fu + 1, Q, F, hQ, hF, h => by
  by_cases h2 : skD F < g
  · rw [gdR_stop h2]; exact ⟨hQ, hF, h2⟩
  · obtain ⟨_, _, _, h4, h5, h6⟩ := H.2 F hF (by omega)
    rw [gdR_step h2]
    exact gdR_ok fu _ _ (skA_rsk hp h0 hQ h4) h5 (by omega)
theorem gdR_keep : ∀ (fu : Nat) Q F (r : Nat), rsk p m Q → rsk p m F → r < 8 → skD F < (r : Int) + g → ∀ k, k < 64 → (gdR p T N g fu Q F).1 r k = Q r k
 | 0, Q, F, r, hQ, hF, hr, h, k, hk => rfl
 | fu + 1, Q, F, r, hQ, hF, hr, h, k, hk => by
  by_cases h2 : skD F < g
  · rw [gdR_stop h2]
  · obtain ⟨h3, _, _, h4, h5, h6⟩ := H.2 F hF (by omega)
    have hg := H.1
    rw [gdR_step h2, gdR_keep fu _ _ r (skA_rsk hp h0 hQ h4) h5 hr (by omega) k hk]
    show addK p (Q r) (T F r) 1 k = Q r k
    exact addK_zero (hQ r hr).1 (fun k _ => by rw [h3]; unfold sng; rw [updR_other (by omega)]) k hk
theorem gdU_eq : ∀ (fu : Nat) Q Q' F, rsk p m Q' → rsk p m F → (∀ r, r < 8 → ∀ k, k < 64 → Q r k = Q' r k) → (∀ r : Nat, r < 8 → (r : Int) + g ≤ skD F → ∀ k, k < 64 → Q' r k = 0) →
 (gdU A N g fu Q F).2 = (gdR p T N g fu Q' F).2 ∧ ∀ r, r < 8 → ∀ k, k < 64 → (gdU A N g fu Q F).1 r k = (gdR p T N g fu Q' F).1 r k
 | 0, Q, Q', F, hQ, hF, he, hz => ⟨rfl, he⟩
 | fu + 1, Q, Q', F, hQ, hF, he, hz => by
  by_cases h2 : skD F < g
  · rw [gdR_stop h2, gdU_stop h2]; exact ⟨rfl, he⟩
  · obtain ⟨h3, h7, _, h4, h5, h6⟩ := H.2 F hF (by omega)
    have hg := H.1
    obtain ⟨b1, b2⟩ := zsd F
    rw [gdR_step h2, gdU_step h2]
    refine gdU_eq fu _ _ _ (skA_rsk hp h0 hQ h4) h5 (fun r hr k hk => ?_) (fun r hr h k hk => ?_)
    · show updR Q _ (A F) r k = addK p (Q' r) (T F r) 1 k
      rw [h3]
      unfold sng
      by_cases e : r = (skD F).toNat - g.toNat
      · subst e
        rw [updR_same, updR_same, addK_one]
        show A F k = (Q' _ k + A F k) % p
        rw [hz _ hr (by omega) k hk, Nat.zero_add, Nat.mod_eq_of_lt (h7.1 k hk)]
      · rw [updR_other e, updR_other e, he r hr k hk]
        exact (addK_zero (hQ r hr).1 (fun _ _ => rfl) k hk).symm
    · show addK p (Q' r) (T F r) 1 k = 0
      rw [h3]
      unfold sng
      rw [updR_other (by omega)]
      rw [addK_zero (hQ r hr).1 (fun _ _ => rfl) k hk]
      exact hz r hr (by omega) k hk
theorem gdR_deg {F : Nat → Nat → Nat} (hF : rsk p m F) (h : g ≤ skD F) : skD (gdR p T N g 8 (fun _ _ => 0) F).1 = skD F - g := by
 obtain ⟨h3, h7, h8, h4, h5, h6⟩ := H.2 F hF h
 have hg := H.1
 obtain ⟨b1, b2⟩ := zsd F
 have hz : rsk p m (fun _ _ => 0) := fun _ _ => zero_rsd hp h0
 have hn : ((skD F).toNat - g.toNat : Nat) < 8 := by omega
 have key : skD (gdR p T N g 8 (fun _ _ => 0) F).1 = (((skD F).toNat - g.toNat : Nat) : Int) := by
  refine skD_at hn (deg_congr0 (x := A F) (fun k hk => ?_) h8) (fun i h1 h2 k hk => ?_)
  · rw [gdR_step (by omega), gdR_keep hp h0 H 7 _ _ _ (skA_rsk hp h0 hz h4) h5 hn (by omega) k hk]
    show A F k = addK p _ (T F _) 1 k
    rw [h3]
    unfold sng
    rw [updR_same, addK_one]
    show A F k = (0 + A F k) % p
    rw [Nat.zero_add, Nat.mod_eq_of_lt (h7.1 k hk)]
  · rw [gdR_keep hp h0 H 8 _ _ i hz hF h2 (by omega) k hk]
 rw [key]; omega
end
section
variable {p : Nat} {m : Nat → Nat} {d : Nat} (hp : p = 2 ∨ p = 3 ∨ p = 5 ∨ p = 7) (lm : ∀ k, k < 64 → m k < p) (hmon : mon m d) (hi : irr p (cut m) d) (h9 : d ≤ 9)
include hp lm hmon hi h9
theorem GD_right {G : Nat → Nat → Nat} (hG : rsk p m G) (hG0 : 0 ≤ skD G) : GD p m (fun F => dvA p m d F G) (fun F => dvT p m d F G) (fun F => dvF p m d F G) (skD G) := ⟨hG0, fun F hF h => by
 obtain ⟨a, b, c, e, f, g⟩ := dv_step hp lm hmon hi h9 hF hG hG0 h
 exact ⟨rfl, a, b, e, f, g⟩⟩
end
/-- quotient and rest from the right -/
def dq (p : Nat) (m : Nat → Nat) (d : Nat) (F G : Nat → Nat → Nat) : (Nat → Nat → Nat) × (Nat → Nat → Nat) := gdR p (fun F => dvT p m d F G) (fun F => dvF p m d F G) (skD G) 8 (fun _ _ => 0) F
/-- the search for a common divisor: the divisor, and the factor of the first one in what is 0 -/
def eu (p : Nat) (m : Nat → Nat) (d : Nat) : Nat → (Nat → Nat → Nat) → (Nat → Nat → Nat) → (Nat → Nat → Nat) → (Nat → Nat → Nat) → (Nat → Nat → Nat) × (Nat → Nat → Nat)
 | 0, A, B, U, V => (A, V)
 | n + 1, A, B, U, V => if skD B < 0 then (A, V) else eu p m d n B (dq p m d A B).2 V (skA p U (tmP p m d (dq p m d A B).1 V) (-1))
def eD (p : Nat) (m : Nat → Nat) (d : Nat) : Nat → (Nat → Nat → Nat) → (Nat → Nat → Nat) → (Nat → Nat → Nat)
 | 0, A, B => A
 | n + 1, A, B => if skD B < 0 then A else eD p m d n B (dq p m d A B).2
theorem eu_stop {p : Nat} {m : Nat → Nat} {d n : Nat} {A B U V : Nat → Nat → Nat} (h : skD B < 0) : eu p m d n A B U V = (A, V) := by
 cases n with
 | zero => rfl
 | succ n => rw [eu, if_pos h]
theorem eu_step {p : Nat} {m : Nat → Nat} {d n : Nat} {A B U V : Nat → Nat → Nat} (h : ¬ skD B < 0) : eu p m d (n + 1) A B U V = eu p m d n B (dq p m d A B).2 V (skA p U (tmP p m d (dq p m d A B).1 V) (-1)) := by rw [eu, if_neg h]
theorem eD_stop {p : Nat} {m : Nat → Nat} {d n : Nat} {A B : Nat → Nat → Nat} (h : skD B < 0) : eD p m d n A B = A := by
 cases n with
 | zero => rfl
 | succ n => rw [eD, if_pos h]
theorem eD_step {p : Nat} {m : Nat → Nat} {d n : Nat} {A B : Nat → Nat → Nat} (h : ¬ skD B < 0) : eD p m d (n + 1) A B = eD p m d n B (dq p m d A B).2 := by rw [eD, if_neg h]
theorem eu_eD (p : Nat) (m : Nat → Nat) (d : Nat) : ∀ n A B U V, (eu p m d n A B U V).1 = eD p m d n A B
 | 0, A, B, U, V => rfl
 | n + 1, A, B, U, V => by
  by_cases h : skD B < 0
  · rw [eu_stop h, eD_stop h]
  · rw [eu_step h, eD_step h]; exact eu_eD p m d n _ _ _ _
/-- what holds throughout the search -/
def EI (p : Nat) (m : Nat → Nat) (A B U V : Nat → Nat → Nat) (g : Int) : Prop :=
 rsk p m A ∧ rsk p m B ∧ rsk p m U ∧ rsk p m V ∧ ((skD V < 0 ∧ skD U = 0 ∧ skD B = g) ∨ (0 ≤ skD V ∧ skD V + skD A = g ∧ skD U < skD V ∧ skD B < skD A))
section
variable {p : Nat} {m : Nat → Nat} {d : Nat} (hp : p = 2 ∨ p = 3 ∨ p = 5 ∨ p = 7) (lm : ∀ k, k < 64 → m k < p) (hmon : mon m d) (hi : irr p (cut m) d) (h9 : d ≤ 9)
include hp lm hmon hi h9
theorem dq_ok {F G : Nat → Nat → Nat} (hF : rsk p m F) (hG : rsk p m G) (hG0 : 0 ≤ skD G) :
 rsk p m (dq p m d F G).1 ∧ rsk p m (dq p m d F G).2 ∧ skD (dq p m d F G).2 < skD G ∧ (skD G ≤ skD F → skD (dq p m d F G).1 = skD F - skD G) ∧ (skD F < skD G → skD (dq p m d F G).1 = -1) := by
 have h0 : 0 ≤ deg m := by rw [hmon.1]; omega
 have H := GD_right hp lm hmon hi h9 hG hG0
 obtain ⟨b1, b2⟩ := zsd F
 have hz : rsk p m (fun _ _ => 0) := fun _ _ => zero_rsd (by omega) h0
 obtain ⟨c1, c2, c3⟩ := gdR_ok (by omega) h0 H 8 _ F hz hF (by omega)
 refine ⟨c1, c2, c3, fun h => gdR_deg (by omega) h0 H hF h, fun h => ?_⟩
 unfold dq
 rw [gdR_stop h]; exact skD_z0
theorem EI_start {F G : Nat → Nat → Nat} (hF : rsk p m F) (hG : rsk p m G) : EI p m F G (sng 0 oneP) (fun _ _ => 0) (skD G) :=
 ⟨hF, hG, sng_rsk hp lm hmon hi h9 0 (one_rsd hp lm hmon hi h9), fun _ _ => zero_rsd (by omega) (by rw [hmon.1]; omega), .inl ⟨by rw [skD_z0]; omega, sng_deg (by omega) (by rw [deg_one]; omega), rfl⟩⟩
theorem EI_fit {A B U V : Nat → Nat → Nat} {g : Int} (H : EI p m A B U V g) (hB : 0 ≤ skD B) (hg : g ≤ 7) : skD (dq p m d A B).1 + skD V ≤ 7 := by
 obtain ⟨hA, hB', hU, hV, h⟩ := H
 obtain ⟨c1, c2, c3, c4, c5⟩ := dq_ok hp lm hmon hi h9 hA hB' hB
 obtain ⟨b1, b2⟩ := zsd (dq p m d A B).1
 rcases h with ⟨h1, h2, h3⟩ | ⟨h1, h2, h3, h4⟩
 · omega
 · have := c4 (by omega); omega
theorem skA_top {F G : Nat → Nat → Nat} {n : Nat} (hG : rsk p m G) (hn : skD G = (n : Int)) (h : skD F < (n : Int)) : skD (skA p F G (-1)) = (n : Int) := by
 have _u0 := lm
 have _u1 := hmon
 have _u2 := hi
 have _u3 := h9
 obtain ⟨n8, gn⟩ := skN_row hn
 refine skD_at n8 ?_ (fun i h1 h2 k hk => ?_)
 · obtain ⟨k, hk, h2⟩ := deg_nonneg gn
   have hf := eqN_iff.1 (skN_spec F 8 n n8 (by unfold skD at h; exact h)) k hk
   have hl := (hG n n8).1 k hk
   by_cases h3 : 0 ≤ deg (skA p F G (-1) n)
   · exact h3
   · exfalso
     have h4 := dgz_out (x := skA p F G (-1) n) (by omega) k hk
     have h5 : skA p F G (-1) n k = (F n k + p - G n k) % p := addK_neg (by omega) (hG n n8).1 hk
     rw [h5, hf, Nat.zero_add, Nat.mod_eq_of_lt (by omega)] at h4
     omega
 · have e1 := eqN_iff.1 (skN_spec F 8 i h2 (by unfold skD at h; omega)) k hk
   have e2 := eqN_iff.1 (skN_spec G 8 i h2 (by unfold skD at hn; omega)) k hk
   have h5 : skA p F G (-1) i k = (F i k + p - G i k) % p := addK_neg (by omega) (hG i h2).1 hk
   rw [h5, e1, e2, Nat.zero_add, Nat.sub_zero, Nat.mod_self]
theorem EI_step {A B U V : Nat → Nat → Nat} {g : Int} (H : EI p m A B U V g) (hB : 0 ≤ skD B) (hg : g ≤ 7) : EI p m B (dq p m d A B).2 V (skA p U (tmP p m d (dq p m d A B).1 V) (-1)) g := by
 have hfit := EI_fit hp lm hmon hi h9 H hB hg
 obtain ⟨hA, hB', hU, hV, h⟩ := H
 have h0 : 0 ≤ deg m := by rw [hmon.1]; omega
 obtain ⟨c1, c2, c3, c4, c5⟩ := dq_ok hp lm hmon hi h9 hA hB' hB
 have hP : rsk p m (tmP p m d (dq p m d A B).1 V) := fun i _ => tmP_rsd hp lm h0 i
 refine ⟨hB', c2, hV, skA_rsk (by omega) h0 hU hP, .inr ?_⟩
 rcases h with ⟨h1, h2, h3⟩ | ⟨h1, h2, h3, h4⟩
 · have e : skD (skA p U (tmP p m d (dq p m d A B).1 V) (-1)) = 0 := by
    rw [← h2]
    refine skD_congr (fun i hi8 k hk => ?_)
    have h5 : skA p U (tmP p m d (dq p m d A B).1 V) (-1) i k = (U i k + p - tmP p m d (dq p m d A B).1 V i k) % p := addK_neg (by omega) (hP i hi8).1 hk
    rw [h5, tmP_zero (.inr h1), Nat.sub_zero, Nat.add_mod_right, Nat.mod_eq_of_lt ((hU i hi8).1 k hk)]
   rw [e]
   exact ⟨Int.le_refl _, by omega, h1, c3⟩
 · have hq := c4 (by omega)
   obtain ⟨a, ha⟩ : ∃ a : Nat, skD (dq p m d A B).1 = (a : Int) := ⟨(skD (dq p m d A B).1).toNat, by omega⟩
   obtain ⟨v, hv⟩ : ∃ v : Nat, skD V = (v : Int) := ⟨(skD V).toNat, by omega⟩
   have hd := tmP_deg hp lm hmon hi h9 c1 hV ha hv (by omega)
   have e := skA_top hp lm hmon hi h9 (F := U) hP hd (by omega)
   rw [e]
   exact ⟨by omega, by omega, by omega, c3⟩
end
attribute [irreducible] gdR gdU dq eu eD
end Go.Proofs.Ytdlojnmggogbaaa
end
section
namespace Go.Proofs.Ytdlojnmggogbaaa
open Go Go.RowKit
set_option linter.unusedVariables false
set_option linter.unusedSimpArgs false
attribute [local irreducible] deg addK strP frI frN mmP pmP resP bzU bzD bzW skA skD
set_option maxRecDepth 100000 in
set_option maxHeartbeats 1600000 in
theorem leading_any (F : Nat → Nat → Nat) (n : Nat) (hn : skD F = (n : Int)) (w : World) :
 Calls Try.prog 186 #[.agg (zb 512 (fl 64 F))] w fun e w' => e = .returned (.agg (zb 64 (F n))) ∧ Below w.heap.size w w' := by
 have n8 : n < 8 := (skN_row hn).1
 have HN := Lib.hid hn
 clear hn
 go_enter Try.func186, Try.ntmps186
 go_upto_region 1 with (fail)
 rw [← z64]
 obtain ⟨W1, hwo⟩ : ∃ v : World, v = ((w.alloc (.cells (zb 512 (fl 64 F)) 26)).alloc (.cells (zb 64 (fun _ => 0)) 24)) := ⟨_, rfl⟩
 have B0 : Blk W1 (w.heap.size) 512 26 (fl 64 F) := by subst hwo; have := ((Blk.new w 512 26 (fl 64 F)).alloc (.cells (zb 64 (fun _ => 0)) 24)); simpa using this
 have B1 : Blk W1 (w.heap.size + 1) 64 24 (fun _ => 0) := by subst hwo; have := (Blk.new (w.alloc (.cells (zb 512 (fl 64 F)) 26)) 64 24 (fun _ => 0)); simpa using this
 have hb : Below w.heap.size w W1 := by subst hwo; exact (((Below.refl _ _).alloc (Nat.le_refl _) _).alloc (by simp) _)
 rw [← hwo]
 clear hwo
 have lt_B0 := B0.lt
 have lt_B1 := B1.lt
 go_wp2_with (first | rw [← z64] | (refine zla (.tmp 1) B0 Try.underlying26 Try.size26 ?_) | (go_at_call 86; refine (skDegree_any F _).mono ?_; rintro e W2 ⟨rfl, hW2⟩; replace B0 := B0.zw hW2; replace B1 := B1.zw hW2; replace hb := (hb).trans (hW2.mono (hb).size); rw [HN.out]) | (refine wpList_load_mid rfl 24 (.tmp 5) rfl _ (n * 64) rfl (bl 64 (F n)) _ ((B0).sk (by omega)) Try.underlying24 rfl (by rw [zl]; exact Try.size24) ?_) | (refine zsr (.tmp 2) (.tmp 6) (F n) B1 Try.size24 ?_; try simp only [Act.put]))
 obtain ⟨W3, hwo, hzQ⟩ : ∃ v : World, v = (W2.setRow (w.heap.size + 1) (zb 64 (F n))) ∧ Blk v (w.heap.size) 512 26 (fl 64 F) ∧ Blk v (w.heap.size + 1) 64 24 (F n) ∧ Below w.heap.size w v := ⟨_, rfl, (B0.rowOther (by omega)), (B1.row (F n)), (zr hb (by omega) _)⟩
 rw [← hwo]
 clear hwo B0 B1 hb
 obtain ⟨B0, B1, hb⟩ := hzQ
 try simp only [Act.put, pA, pB, pC]
 refine bodyPost_ret (zrb rfl _ _ _ 64 24 5 _ rfl B1 Try.underlying24 Try.size24) rfl ⟨rfl, hb⟩
set_option maxRecDepth 100000 in
set_option maxHeartbeats 1600000 in
theorem quotient_any (p : Nat) (m x y : Nat → Nat) (w : World) (hpr : p = 2 ∨ p = 3 ∨ p = 5 ∨ p = 7) (lm : ∀ k, k < 64 → m k < p) (h0 : 0 ≤ deg m) (lx : ∀ k, k < 64 → x k < p) (ly : ∀ k, k < 64 → y k < p) :
 Calls Try.prog 185 #[.agg (fdC (p : Int) m).toArray, .agg (zb 64 x), .agg (zb 64 y)] w fun e w' => e = .returned (.agg (zb 64 (mmP p x (bzU p y m) m))) ∧ Below w.heap.size w w' := by
 have HB := Lib.hid (fun W => bezout_any p y m W hpr ly lm (.inr h0))
 have HP := Lib.hid (fun W => kproduct_any p m x (bzU p y m) W hpr lm h0 lx (fun k _ => bzU_lt (by omega) k))
 clear h0 lx ly lm
 go_enter Try.func185, Try.ntmps185
 go_upto_region 1 with (fail)
 rw [← z64]
 obtain ⟨W1, hwo⟩ : ∃ v : World, v = ((((w.alloc (.cells (fdC (p : Int) m).toArray 94)).alloc (.cells (zb 64 (x)) 24)).alloc (.cells (zb 64 (y)) 24)).alloc (.cells (zb 64 (fun _ => 0)) 24)) := ⟨_, rfl⟩
 have B0 : Row W1 (w.heap.size) 94 (fdC (p : Int) m).toArray := by subst hwo; have := ((((Row.new w 94 (fdC (p : Int) m).toArray).alloc (.cells (zb 64 (x)) 24)).alloc (.cells (zb 64 (y)) 24)).alloc (.cells (zb 64 (fun _ => 0)) 24)); simpa using this
 have B1 : Blk W1 (w.heap.size + 1) 64 24 (x) := by subst hwo; have := (((Blk.new (w.alloc (.cells (fdC (p : Int) m).toArray 94)) 64 24 (x)).alloc (.cells (zb 64 (y)) 24)).alloc (.cells (zb 64 (fun _ => 0)) 24)); simpa using this
 have B2 : Blk W1 (w.heap.size + 1 + 1) 64 24 (y) := by subst hwo; have := ((Blk.new ((w.alloc (.cells (fdC (p : Int) m).toArray 94)).alloc (.cells (zb 64 (x)) 24)) 64 24 (y)).alloc (.cells (zb 64 (fun _ => 0)) 24)); simpa using this
 have B3 : Blk W1 (w.heap.size + 1 + 1 + 1) 64 24 (fun _ => 0) := by subst hwo; have := (Blk.new (((w.alloc (.cells (fdC (p : Int) m).toArray 94)).alloc (.cells (zb 64 (x)) 24)).alloc (.cells (zb 64 (y)) 24)) 64 24 (fun _ => 0)); simpa using this
 have hb : Below w.heap.size w W1 := by subst hwo; exact (((((Below.refl _ _).alloc (Nat.le_refl _) _).alloc (by simp) _).alloc (by simp; omega) _).alloc (by simp; omega) _)
 rw [← hwo]
 clear hwo
 have cc := B0.cell (i := 0) (v := .int .i64 (p : Int)) (fdC_at (p : Int) m)
 have lt_B0 := B0.lt
 have lt_B1 := B1.lt
 have lt_B2 := B2.lt
 have lt_B3 := B3.lt
 go_upto_region 2 with (first | rw [← z64] | (refine zla (.tmp 5) B2 Try.underlying24 Try.size24 ?_) | (refine wpList_load_mid rfl 24 (.tmp 14) rfl _ 1 rfl (bl 64 m) _ (B0.fd) Try.underlying24 rfl (by rw [zl]; exact Try.size24) ?_) | (go_at_call 236; refine (HB.out _).mono ?_; rintro e W2 ⟨rfl, hW2⟩; replace B0 := B0.zw hW2; replace B1 := B1.zw hW2; replace B2 := B2.zw hW2; replace B3 := B3.zw hW2; replace hb := (hb).trans (hW2.mono (hb).size)) | (refine wpList_store_blk rfl 24 (.tmp 7) (.tmp 17) rfl _ 64 (bzD p y m) rfl rfl 24 _ ((((Blk.new W2 64 24 (fun _ => 0)).alloc (.cells (zb 64 (fun _ => 0)) 24)).alloc (.cells (zb 64 (fun _ => 0)) 24))) Try.size24 ?_; try simp only [Act.put]) | (refine wpList_store_blk rfl 24 (.tmp 8) (.tmp 18) rfl _ 64 (bzU p y m) rfl rfl 24 _ ((((show Blk ((W2.alloc (.cells (zb 64 (fun _ => 0)) 24)).alloc (.cells (zb 64 (fun _ => 0)) 24)) (W2.heap.size + 1) 64 24 (fun _ => 0) by have := Blk.new (W2.alloc (.cells (zb 64 (fun _ => 0)) 24)) 64 24 (fun _ => 0); simpa using this).alloc (.cells (zb 64 (fun _ => 0)) 24)).rowOther (by omega))) Try.size24 ?_; try simp only [Act.put]) | (refine wpList_store_blk rfl 24 (.tmp 9) (.tmp 19) rfl _ 64 (bzW p y m) rfl rfl 24 _ ((((show Blk (((W2.alloc (.cells (zb 64 (fun _ => 0)) 24)).alloc (.cells (zb 64 (fun _ => 0)) 24)).alloc (.cells (zb 64 (fun _ => 0)) 24)) (W2.heap.size + 1 + 1) 64 24 (fun _ => 0) by have := Blk.new ((W2.alloc (.cells (zb 64 (fun _ => 0)) 24)).alloc (.cells (zb 64 (fun _ => 0)) 24)) 64 24 (fun _ => 0); simpa using this).rowOther (by omega)).rowOther (by omega))) Try.size24 ?_; try simp only [Act.put]))
 have lt_B0 := B0.lt
 have lt_B1 := B1.lt
 have lt_B2 := B2.lt
 have lt_B3 := B3.lt
 have lhb := hb.size
 obtain ⟨W3, hwo, hzQ⟩ : ∃ v : World, v = ((((((W2.alloc (.cells (zb 64 (fun _ => 0)) 24)).alloc (.cells (zb 64 (fun _ => 0)) 24)).alloc (.cells (zb 64 (fun _ => 0)) 24)).setRow (W2.heap.size) (zb 64 (bzD p y m))).setRow (W2.heap.size + 1) (zb 64 (bzU p y m))).setRow (W2.heap.size + 1 + 1) (zb 64 (bzW p y m))) ∧ Row v (w.heap.size) 94 (fdC (p : Int) m).toArray ∧ Blk v (w.heap.size + 1) 64 24 (x) ∧ Blk v (w.heap.size + 1 + 1) 64 24 (y) ∧ Blk v (w.heap.size + 1 + 1 + 1) 64 24 (fun _ => 0) ∧ Blk v (W2.heap.size) 64 24 (bzD p y m) ∧ Blk v (W2.heap.size + 1) 64 24 (bzU p y m) ∧ Blk v (W2.heap.size + 1 + 1) 64 24 (bzW p y m) ∧ Below w.heap.size w v := ⟨_, rfl, ((((((B0.alloc (.cells (zb 64 (fun _ => 0)) 24)).alloc (.cells (zb 64 (fun _ => 0)) 24)).alloc (.cells (zb 64 (fun _ => 0)) 24)).rowOther (by omega)).rowOther (by omega)).rowOther (by omega)), ((((((B1.alloc (.cells (zb 64 (fun _ => 0)) 24)).alloc (.cells (zb 64 (fun _ => 0)) 24)).alloc (.cells (zb 64 (fun _ => 0)) 24)).rowOther (by omega)).rowOther (by omega)).rowOther (by omega)), ((((((B2.alloc (.cells (zb 64 (fun _ => 0)) 24)).alloc (.cells (zb 64 (fun _ => 0)) 24)).alloc (.cells (zb 64 (fun _ => 0)) 24)).rowOther (by omega)).rowOther (by omega)).rowOther (by omega)), ((((((B3.alloc (.cells (zb 64 (fun _ => 0)) 24)).alloc (.cells (zb 64 (fun _ => 0)) 24)).alloc (.cells (zb 64 (fun _ => 0)) 24)).rowOther (by omega)).rowOther (by omega)).rowOther (by omega)), ((((((Blk.new W2 64 24 (fun _ => 0)).alloc (.cells (zb 64 (fun _ => 0)) 24)).alloc (.cells (zb 64 (fun _ => 0)) 24)).row (bzD p y m)).rowOther (by omega)).rowOther (by omega)), (((((show Blk ((W2.alloc (.cells (zb 64 (fun _ => 0)) 24)).alloc (.cells (zb 64 (fun _ => 0)) 24)) (W2.heap.size + 1) 64 24 (fun _ => 0) by have := Blk.new (W2.alloc (.cells (zb 64 (fun _ => 0)) 24)) 64 24 (fun _ => 0); simpa using this).alloc (.cells (zb 64 (fun _ => 0)) 24)).rowOther (by omega)).row (bzU p y m)).rowOther (by omega)), ((((show Blk (((W2.alloc (.cells (zb 64 (fun _ => 0)) 24)).alloc (.cells (zb 64 (fun _ => 0)) 24)).alloc (.cells (zb 64 (fun _ => 0)) 24)) (W2.heap.size + 1 + 1) 64 24 (fun _ => 0) by have := Blk.new ((W2.alloc (.cells (zb 64 (fun _ => 0)) 24)).alloc (.cells (zb 64 (fun _ => 0)) 24)) 64 24 (fun _ => 0); simpa using this).rowOther (by omega)).rowOther (by omega)).row (bzW p y m)), (zr (zr (zr (((hb.alloc (by have := hb.size; simp; omega) (.cells (zb 64 (fun _ => 0)) 24)).alloc (by have := hb.size; simp; omega) (.cells (zb 64 (fun _ => 0)) 24)).alloc (by have := hb.size; simp; omega) (.cells (zb 64 (fun _ => 0)) 24)) (by omega) _) (by omega) _) (by omega) _)⟩
 rw [← hwo]
 clear hwo B0 B1 B2 B3 hb
 obtain ⟨B0, B1, B2, B3, B4, B5, B6, hb⟩ := hzQ
 obtain ⟨N1, hNN⟩ : ∃ n : Nat, n = W2.heap.size := ⟨_, rfl⟩
 rw [← hNN] at lt_B0 lt_B1 lt_B2 lt_B3 lhb B4 B5 B6 ⊢
 clear hNN
 have zN1_0 := lt_B0
 have zN1_1 := lt_B1
 have zN1_2 := lt_B2
 have zN1_3 := lt_B3
 have zN1 := lhb
 clear lt_B0 lt_B1 lt_B2 lt_B3 lhb
 try simp only [Act.put, pA, pB, pC]
 have lt_B0 := B0.lt
 have lt_B1 := B1.lt
 have lt_B2 := B2.lt
 have lt_B3 := B3.lt
 have lt_B4 := B4.lt
 have lt_B5 := B5.lt
 have lt_B6 := B6.lt
 go_wp2_with (first | rw [← z64] | (refine zlr rfl 94 (.tmp 3) rfl _ rfl 94 (fdC (p : Int) m).toArray B0 _ Try.underlying94 rfl 65 Try.size94 (by simp [fdC_len]) ?_) | (refine zla (.tmp 4) B1 Try.underlying24 Try.size24 ?_) | (refine zla (.tmp 8) B5 Try.underlying24 Try.size24 ?_) | (go_at_call 178; refine (HP.out _).mono ?_; rintro e W4 ⟨rfl, hW4⟩; replace B0 := B0.zw hW4; replace B1 := B1.zw hW4; replace B2 := B2.zw hW4; replace B3 := B3.zw hW4; replace B4 := B4.zw hW4; replace B5 := B5.zw hW4; replace B6 := B6.zw hW4; replace hb := (hb).trans (hW4.mono (hb).size)) | (refine zsr (.tmp 6) (.tmp 23) (mmP p x (bzU p y m) m) B3 Try.size24 ?_; try simp only [Act.put]))
 obtain ⟨W5, hwo, hzQ⟩ : ∃ v : World, v = (W4.setRow (w.heap.size + 1 + 1 + 1) (zb 64 (mmP p x (bzU p y m) m))) ∧ Row v (w.heap.size) 94 (fdC (p : Int) m).toArray ∧ Blk v (w.heap.size + 1) 64 24 (x) ∧ Blk v (w.heap.size + 1 + 1) 64 24 (y) ∧ Blk v (w.heap.size + 1 + 1 + 1) 64 24 (mmP p x (bzU p y m) m) ∧ Blk v (N1) 64 24 (bzD p y m) ∧ Blk v (N1 + 1) 64 24 (bzU p y m) ∧ Blk v (N1 + 1 + 1) 64 24 (bzW p y m) ∧ Below w.heap.size w v := ⟨_, rfl, (B0.rowOther (by omega)), (B1.rowOther (by omega)), (B2.rowOther (by omega)), (B3.row (mmP p x (bzU p y m) m)), (B4.rowOther (by omega)), (B5.rowOther (by omega)), (B6.rowOther (by omega)), (zr hb (by omega) _)⟩
 rw [← hwo]
 clear hwo B0 B1 B2 B3 B4 B5 B6 hb
 obtain ⟨B0, B1, B2, B3, B4, B5, B6, hb⟩ := hzQ
 try simp only [Act.put, pA, pB, pC]
 refine bodyPost_ret (zrb rfl _ _ _ 64 24 5 _ rfl B3 Try.underlying24 Try.size24) rfl ⟨rfl, hb⟩
set_option maxRecDepth 100000 in
set_option maxHeartbeats 1600000 in
theorem skMinus_any (p : Nat) (m : Nat → Nat) (F G : Nat → Nat → Nat) (w : World) (p2 : 2 ≤ p) (p7 : p ≤ 7) (hF : ∀ i, i < 8 → ∀ j, j < 64 → F i j < p) (hG : ∀ i, i < 8 → ∀ j, j < 64 → G i j < p) :
 Calls Try.prog 188 #[.agg (zb 512 (fl 64 F)), .agg (fdC (p : Int) m).toArray, .agg (zb 512 (fl 64 G))] w fun e w' => e = .returned (.agg (zb 512 (fl 64 (skA p F G (-1))))) ∧ Below w.heap.size w w' := by
 have HZ := Lib.hid (skJ_z p F G (-1))
 have HA := Lib.hid (skJ_at p F G (-1))
 have HS := Lib.hid (skJ_s p F G (-1))
 have HV := Lib.hid (skJ_end p F G (-1))
 have HAD := Lib.hid (show ∀ j, j < 8 → ∀ W, Calls Try.prog 195 #[.int .i64 (p : Int), .agg (zb 64 (F j)), .agg (zb 64 (G j))] W fun e w' => e = .returned (.agg (zb 64 (addK p (F j) (G j) (-1)))) ∧ Below W.heap.size W w' from fun j hj W => by
  have h := difference_any p _ _ W p2 p7 (hF j hj) (hG j hj)
  rw [zbc (f := fun i => (F j i + p - G j i) % p) (g := addK p (F j) (G j) (-1)) (fun k hk => (addK_neg (by omega) (hG j hj) hk).symm)] at h
  exact h)
 clear hF hG
 go_enter Try.func188, Try.ntmps188
 go_upto_region 1 with (fail)
 rw [← zero512]
 obtain ⟨W1, hwo⟩ : ∃ v : World, v = ((((w.alloc (.cells (zb 512 (fl 64 F)) 26)).alloc (.cells (fdC (p : Int) m).toArray 94)).alloc (.cells (zb 512 (fl 64 G)) 26)).alloc (.cells (zb 512 (fl 64 (fun _ _ => 0))) 26)) := ⟨_, rfl⟩
 have B0 : Blk W1 (w.heap.size) 512 26 (fl 64 F) := by subst hwo; have := ((((Blk.new w 512 26 (fl 64 F)).alloc (.cells (fdC (p : Int) m).toArray 94)).alloc (.cells (zb 512 (fl 64 G)) 26)).alloc (.cells (zb 512 (fl 64 (fun _ _ => 0))) 26)); simpa using this
 have B1 : Row W1 (w.heap.size + 1) 94 (fdC (p : Int) m).toArray := by subst hwo; have := (((Row.new (w.alloc (.cells (zb 512 (fl 64 F)) 26)) 94 (fdC (p : Int) m).toArray).alloc (.cells (zb 512 (fl 64 G)) 26)).alloc (.cells (zb 512 (fl 64 (fun _ _ => 0))) 26)); simpa using this
 have B2 : Blk W1 (w.heap.size + 1 + 1) 512 26 (fl 64 G) := by subst hwo; have := ((Blk.new ((w.alloc (.cells (zb 512 (fl 64 F)) 26)).alloc (.cells (fdC (p : Int) m).toArray 94)) 512 26 (fl 64 G)).alloc (.cells (zb 512 (fl 64 (fun _ _ => 0))) 26)); simpa using this
 have B3 : Blk W1 (w.heap.size + 1 + 1 + 1) 512 26 (fl 64 (fun _ _ => 0)) := by subst hwo; have := (Blk.new (((w.alloc (.cells (zb 512 (fl 64 F)) 26)).alloc (.cells (fdC (p : Int) m).toArray 94)).alloc (.cells (zb 512 (fl 64 G)) 26)) 512 26 (fl 64 (fun _ _ => 0))); simpa using this
 have hb : Below w.heap.size w W1 := by subst hwo; exact (((((Below.refl _ _).alloc (Nat.le_refl _) _).alloc (by simp) _).alloc (by simp; omega) _).alloc (by simp; omega) _)
 rw [← hwo]
 clear hwo
 go_wp2_with fail
 go_loopw [8] (fun c wr => ∃ j : Nat, c = .int .i64 (j : Int) ∧ j ≤ 8 ∧ Below w.heap.size w wr ∧ Blk wr (w.heap.size) 512 26 (fl 64 (skJ p F G (-1) j)) ∧ Blk wr (w.heap.size + 1 + 1) 512 26 (fl 64 G) ∧ Blk wr (w.heap.size + 1 + 1 + 1) 512 26 (fl 64 (fun _ _ => 0)) ∧ Row wr (w.heap.size + 1) 94 (fdC (p : Int) m).toArray) (fun c _ => 8 - (intOf c).toNat)
 case atStart => exact ⟨0, rfl, by omega, hb, by rw [HZ.out]; exact B0, B2, B3, B1⟩
 case round =>
  clear hb B0 B2 B3 B1
  obtain ⟨j, rfl, hj8, hb, B0, B2, B3, B1⟩ := hrel
  by_cases hj : j < 8
  · have hjI : (j : Int) < 8 := by omega
    have HJ := Lib.hid (HA.out j)
    have HAJ := Lib.hid (show ∀ W, Calls Try.prog 195 #[.int .i64 (p : Int), .agg (zb 64 (skJ p F G (-1) j j)), .agg (zb 64 (G j))] W fun e w' => e = .returned (.agg (zb 64 (addK p (F j) (G j) (-1)))) ∧ Below W.heap.size W w' from fun W => by rw [HJ.out]; exact HAD.out j hj W)
    go_upto_region 4 with (fail)
    have lt_B0 : (w.heap.size) < wr.heap.size := B0.lt
    have lt_B1 : (w.heap.size + 1) < wr.heap.size := B1.lt
    have lt_B2 : (w.heap.size + 1 + 1) < wr.heap.size := B2.lt
    have lt_B3 : (w.heap.size + 1 + 1 + 1) < wr.heap.size := B3.lt
    have hbase : w.heap.size ≤ wr.heap.size := hb.size
    refine zq Try.mixed (by kernel_rfl) (by kernel_rfl) (fun v => by (simp only [frL, Act.put, pA, pB, pC, Nat.reduceAdd, Nat.zero_add]; exact rfl))
     (fun L v W2 => Below w.heap.size w W2 ∧ Kx [w.heap.size] wr W2 ∧ (∃ g, Blk W2 (w.heap.size) 512 26 (g)) ∧ (L 11 = false → Blk W2 (w.heap.size) 512 26 (fl 64 (skJ p F G (-1) j))) ∧ (L 11 = true → Blk W2 (w.heap.size) 512 26 (fl 64 (updR (skJ p F G (-1) j) j (addK p (F j) (G j) (-1))))) ∧ VF L v [some (.int .i64 (j : Int)), some (.pointer (some ⟨w.heap.size + 1, 0, none⟩)), some (.int .i64 (p : Int)), some (.int .i64 (j : Int)), some (.pointer (some ⟨w.heap.size, j * 64, none⟩)), some (.agg (zb 64 ((skJ p F G (-1) j) j))), some (.int .i64 (j : Int)), some (.pointer (some ⟨w.heap.size + 1 + 1, j * 64, none⟩)), some (.agg (zb 64 (G j))), some (.agg (zb 64 (addK p (F j) (G j) (-1)))), some (.pointer (some ⟨w.heap.size, j * 64, none⟩)), none]) ?_ ?_ ?_
    · intro v hv0
      exact ⟨hb.drew, Kx.start _ _, ⟨_, B0.drew⟩, (fun _ => B0.drew), (fun h => by cases h), VF.start⟩
    · refine (.cons rfl ?_ (.cons rfl ?_ (.cons rfl ?_ (.cons rfl ?_ (.cons rfl ?_ (.cons rfl ?_ (.cons rfl ?_ (.cons rfl ?_ (.cons rfl ?_ (.cons rfl ?_ (.cons rfl ?_ (.cons rfl ?_ (.nil _)))))))))))))
      all_goals intro L v W2 hd hn ⟨hB, hX, x0, q0, n0, V⟩ K hK
      · go_wp2_with fail
        exact hK _ (.int .i64 (j : Int)) _ (by simp only [Act.put, pA, pB, pC ]) ⟨hB, hX, x0, q0, n0, V.step 0 rfl⟩
      · go_wp2_with fail
        exact hK _ (.pointer (some ⟨w.heap.size + 1, 0, none⟩)) _ (by simp only [Act.put, pA, pB, pC ]) ⟨hB, hX, x0, q0, n0, V.step 1 rfl⟩
      · have e1 := V.at (zdq hd 1 rfl) rfl
        have cc := (B1.kx hX (by simp <;> omega)).cell (i := 0) (v := .int .i64 (p : Int)) (fdC_at (p : Int) m)
        go_wp2_with fail
        exact hK _ (.int .i64 (p : Int)) _ (by simp only [Act.put, pA, pB, pC, e1]) ⟨hB, hX, x0, q0, n0, V.step 2 rfl⟩
      · go_wp2_with fail
        exact hK _ (.int .i64 (j : Int)) _ (by simp only [Act.put, pA, pB, pC ]) ⟨hB, hX, x0, q0, n0, V.step 3 rfl⟩
      · have e3 := V.at (zdq hd 3 rfl) rfl
        go_wp2_with fail
        exact hK _ (.pointer (some ⟨w.heap.size, j * 64, none⟩)) _ (by simp only [Act.put, pA, pB, pC, e3]) ⟨hB, hX, x0, q0, n0, V.step 4 rfl⟩
      · have e4 := V.at (zdq hd 4 rfl) rfl
        have s0 := q0 (by
         cases hL : L 11 with
         | false => rfl
         | true => exact absurd rfl (hn 11 _ rfl hL ⟨5, .phase⟩ (by simp) rfl))
        refine wp_load_mid 24 _ rfl _ (j * 64) e4 _ _ ((s0).sk (by omega)) Try.underlying24 rfl (by rw [zl]; exact Try.size24) ?_
        exact hK _ _ _ rfl ⟨hB, hX, x0, q0, n0, V.step 5 rfl⟩
      · go_wp2_with fail
        exact hK _ (.int .i64 (j : Int)) _ (by simp only [Act.put, pA, pB, pC ]) ⟨hB, hX, x0, q0, n0, V.step 6 rfl⟩
      · have e6 := V.at (zdq hd 6 rfl) rfl
        go_wp2_with fail
        exact hK _ (.pointer (some ⟨w.heap.size + 1 + 1, j * 64, none⟩)) _ (by simp only [Act.put, pA, pB, pC, e6]) ⟨hB, hX, x0, q0, n0, V.step 7 rfl⟩
      · have e7 := V.at (zdq hd 7 rfl) rfl
        refine wp_load_mid 24 _ rfl _ (j * 64) e7 _ _ (((B2.kx hX (by simp <;> omega))).sk (by omega)) Try.underlying24 rfl (by rw [zl]; exact Try.size24) ?_
        exact hK _ _ _ rfl ⟨hB, hX, x0, q0, n0, V.step 8 rfl⟩
      · have e2 := V.at (zdq hd 2 rfl) rfl
        have e5 := V.at (zdq hd 5 rfl) rfl
        have e8 := V.at (zdq hd 8 rfl) rfl
        go_wp2_with (go_at_call 195; refine (HAJ.out _).mono ?_; rintro e wy ⟨rfl, hy⟩)
        exact hK _ (.agg (zb 64 (addK p (F j) (G j) (-1)))) _ (by simp only [Act.put, pA, pB, pC, e2, e5, e8]) ⟨hB.trans (hy.mono hB.size), hX.below hy, (let ⟨g, h⟩ := x0; ⟨g, h.zw hy⟩), (fun h => (q0 h).below hy (q0 h).lt), (fun h => (n0 h).below hy (n0 h).lt), V.step 9 rfl⟩
      · have e0 := V.at (zdq hd 0 rfl) rfl
        go_wp2_with fail
        exact hK _ (.pointer (some ⟨w.heap.size, j * 64, none⟩)) _ (by simp only [Act.put, pA, pB, pC, e0]) ⟨hB, hX, x0, q0, n0, V.step 10 rfl⟩
      · have e10 := V.at (zdq hd 10 rfl) rfl
        have e9 := V.at (zdq hd 9 rfl) rfl
        obtain ⟨gz, hk, hg⟩ : ∃ gz, Blk W2 (w.heap.size) 512 26 (fl 64 gz) ∧ updR gz (j) (addK p (F j) (G j) (-1)) = updR (skJ p F G (-1) j) (j) (addK p (F j) (G j) (-1)) := by
         cases hL : L 11 with
         | false => exact ⟨_, q0 hL, rfl⟩
         | true => exact ⟨_, n0 hL, updR_twice _ _ _⟩
        refine wp_store_sk 24 _ _ rfl _ (j) (addK p (F j) (G j) (-1)) e10 e9 26 gz hk (by omega) Try.size24 ?_
        rw [hg]
        exact hK _ undef _ rfl ⟨zr hB (by omega) _, hX.row (by simp) _, ⟨_, hk.row _⟩, (fun h => absurd h (by simp [setL])), (fun _ => hk.row _), V.skip 11 rfl⟩
    · intro L v W2 hL ⟨hB, hX, x0, q0, n0, V⟩
      have r0 := n0 (hL 11 (by decide))
      have e0 := V.at (hL 0 (by decide)) rfl
      have e1 := V.at (hL 1 (by decide)) rfl
      have e2 := V.at (hL 2 (by decide)) rfl
      have e3 := V.at (hL 3 (by decide)) rfl
      have e4 := V.at (hL 4 (by decide)) rfl
      have e5 := V.at (hL 5 (by decide)) rfl
      have e6 := V.at (hL 6 (by decide)) rfl
      have e7 := V.at (hL 7 (by decide)) rfl
      have e8 := V.at (hL 8 (by decide)) rfl
      have e9 := V.at (hL 9 (by decide)) rfl
      have e10 := V.at (hL 10 (by decide)) rfl
      clear hL x0 q0 n0 V
      replace B1 := B1.kx hX (by simp <;> omega)
      replace B2 := B2.kx hX (by simp <;> omega)
      replace B3 := B3.kx hX (by simp <;> omega)
      clear hX
      simp only [Exit.then, e0, e1, e2, e3, e4, e5, e6, e7, e8, e9, e10]
      clear e0 e1 e2 e3 e4 e5 e6 e7 e8 e9 e10
      replace B0 := r0
      clear r0
      replace hb := hB
      clear hB
      clear hbase lt_B0 lt_B1 lt_B2 lt_B3
      go_wp2_with fail
      go_roundw
      case rel => exact ⟨j + 1, by go_num, by omega, hb, by rw [← HS.out]; exact B0, B2, B3, B1⟩
      case measure => simp [intOf] <;> omega
  · have hjI : ¬ (j : Int) < 8 := by omega
    obtain rfl : j = 8 := by omega
    go_upto_region 6 with (fail)
    have lt_B0 := B0.lt
    have lt_B1 := B1.lt
    have lt_B2 := B2.lt
    have lt_B3 := B3.lt
    go_wp2_with (first | rw [← z64] | rw [← zero512] | (refine zla (.tmp 3) B0 Try.underlying26 Try.size26 ?_) | (refine zsr (.tmp 6) (.tmp 23) (fl 64 (skJ p F G (-1) 8)) B3 Try.size26 ?_; try simp only [Act.put]))
    obtain ⟨W2, hwo, hzQ⟩ : ∃ v : World, v = (wr.setRow (w.heap.size + 1 + 1 + 1) (zb 512 (fl 64 (skJ p F G (-1) 8)))) ∧ Blk v (w.heap.size) 512 26 (fl 64 (skJ p F G (-1) 8)) ∧ Row v (w.heap.size + 1) 94 (fdC (p : Int) m).toArray ∧ Blk v (w.heap.size + 1 + 1) 512 26 (fl 64 G) ∧ Blk v (w.heap.size + 1 + 1 + 1) 512 26 (fl 64 (skJ p F G (-1) 8)) ∧ Below w.heap.size w v := ⟨_, rfl, (B0.rowOther (by omega)), (B1.rowOther (by omega)), (B2.rowOther (by omega)), (B3.row (fl 64 (skJ p F G (-1) 8))), (zr hb (by omega) _)⟩
    rw [← hwo]
    clear hwo B0 B1 B2 B3 hb
    obtain ⟨B0, B1, B2, B3, hb⟩ := hzQ
    try simp only [Act.put, pA, pB, pC]
    refine bodyPost_ret (results_any rfl _ _ _ 512 _ _ rfl B3 _ Try.underlying26 rfl Try.size26) rfl ⟨by rw [HV.out], hb⟩
set_option maxRecDepth 100000 in
set_option maxHeartbeats 1600000 in
theorem rightStep_any (p : Nat) (m : Nat → Nat) (F G : Nat → Nat → Nat) (w : World) (hpr : p = 2 ∨ p = 3 ∨ p = 5 ∨ p = 7) (lm : ∀ k, k < 64 → m k < p) (d : Nat) (hmon : mon m d) (hi : irr p (cut m) d) (hd9 : d ≤ 9) (hF : rsk p m F) (hG : rsk p m G) (hG0 : 0 ≤ skD G) (hFG : skD G ≤ skD F) :
 Calls Try.prog 91 #[.agg (zb 512 (fl 64 F)), .agg (fdC (p : Int) m).toArray, .agg (zb 512 (fl 64 G))] w fun e w' => e = .returned (.tuple #[.agg (zb 512 (fl 64 (dvT p m d F G))), .agg (zb 512 (fl 64 (tmP p m d (dvT p m d F G) G)))]) ∧ Below w.heap.size w w' := by
 have p0 : 0 < p := by omega
 have hd := hmon.1
 have hd1 := hi.1
 have h0 : 0 ≤ deg m := by omega
 have h9 : deg m ≤ 9 := by omega
 obtain ⟨s1, s2, s3, s4, s5, s6⟩ := dv_step hpr lm hmon hi hd9 hF hG hG0 hFG
 obtain ⟨n, hn⟩ : ∃ n : Nat, skD F = (n : Int) := ⟨(skD F).toNat, by omega⟩
 obtain ⟨k, hk⟩ : ∃ k : Nat, skD G = (k : Int) := ⟨(skD G).toNat, by omega⟩
 obtain ⟨n8, fn⟩ := skN_row hn
 obtain ⟨k8, gk⟩ := skN_row hk
 obtain ⟨q, hq⟩ : ∃ q : Nat, n - k = q := ⟨_, rfl⟩
 have hqI : (n : Int) - (k : Int) = (q : Int) := by omega
 have q8 : q < 8 := by omega
 have HT := Lib.hid (show updR (fun _ _ => 0) q (mmP p (F n) (bzU p (frN p m (G k) (q % d)) m) m) = dvT p m d F G by unfold dvT dvA sng; rw [hn, hk, ← hq]; rfl)
 have HLF := Lib.hid (fun W => leading_any F n hn W)
 have HLG := Lib.hid (fun W => leading_any G k hk W)
 have HDF := Lib.hid (show ∀ W, Calls Try.prog 86 #[.agg (zb 512 (fl 64 F))] W fun e w' => e = .returned (.int .i64 (n : Int)) ∧ Below W.heap.size W w' from fun W => by have := skDegree_any F W; rwa [hn] at this)
 have HDG := Lib.hid (show ∀ W, Calls Try.prog 86 #[.agg (zb 512 (fl 64 G))] W fun e w' => e = .returned (.int .i64 (k : Int)) ∧ Below W.heap.size W w' from fun W => by have := skDegree_any G W; rwa [hk] at this)
 have HFB := Lib.hid (fun W => kfrob_any p m (G k) q W hpr lm d hd hd1 hd9 (by omega) (hG k k8))
 have HQ := Lib.hid (fun W => quotient_any p m (F n) (frN p m (G k) (q % d)) W hpr lm h0 (hF n n8).1 (frN_ok hpr lm h0 h9 (hG k k8) (q % d)).1.1)
 have HTM := Lib.hid (show ∀ W, Calls Try.prog 87 #[.agg (zb 512 (fl 64 (updR (fun _ _ => 0) q (mmP p (F n) (bzU p (frN p m (G k) (q % d)) m) m)))), .agg (fdC (p : Int) m).toArray, .agg (zb 512 (fl 64 G))] W fun e w' => e = .returned (.agg (zb 512 (fl 64 (tmP p m d (dvT p m d F G) G)))) ∧ Below W.heap.size W w' from fun W => by
  rw [HT.out]; exact skTimes_any p m _ G W hpr lm d hd hd1 hd9 (fun i hi8 => (s4 i hi8).1) hG (by omega))
 clear s1 s2 s3 s4 s5 s6 hF hG hG0 hFG hn hk hq fn gk hd hd1 h0 h9 hmon hi
 go_enter Try.func91, Try.ntmps91
 go_upto_region 1 with (fail)
 rw [← zero512]
 obtain ⟨W1, hwo⟩ : ∃ v : World, v = (((((w.alloc (.cells (zb 512 (fl 64 F)) 26)).alloc (.cells (fdC (p : Int) m).toArray 94)).alloc (.cells (zb 512 (fl 64 G)) 26)).alloc (.cells (zb 512 (fl 64 (fun _ _ => 0))) 26)).alloc (.cells (zb 512 (fl 64 (fun _ _ => 0))) 26)) := ⟨_, rfl⟩
 have B0 : Blk W1 (w.heap.size) 512 26 (fl 64 F) := by subst hwo; have := (((((Blk.new w 512 26 (fl 64 F)).alloc (.cells (fdC (p : Int) m).toArray 94)).alloc (.cells (zb 512 (fl 64 G)) 26)).alloc (.cells (zb 512 (fl 64 (fun _ _ => 0))) 26)).alloc (.cells (zb 512 (fl 64 (fun _ _ => 0))) 26)); simpa using this
 have B1 : Row W1 (w.heap.size + 1) 94 (fdC (p : Int) m).toArray := by subst hwo; have := ((((Row.new (w.alloc (.cells (zb 512 (fl 64 F)) 26)) 94 (fdC (p : Int) m).toArray).alloc (.cells (zb 512 (fl 64 G)) 26)).alloc (.cells (zb 512 (fl 64 (fun _ _ => 0))) 26)).alloc (.cells (zb 512 (fl 64 (fun _ _ => 0))) 26)); simpa using this
 have B2 : Blk W1 (w.heap.size + 1 + 1) 512 26 (fl 64 G) := by subst hwo; have := (((Blk.new ((w.alloc (.cells (zb 512 (fl 64 F)) 26)).alloc (.cells (fdC (p : Int) m).toArray 94)) 512 26 (fl 64 G)).alloc (.cells (zb 512 (fl 64 (fun _ _ => 0))) 26)).alloc (.cells (zb 512 (fl 64 (fun _ _ => 0))) 26)); simpa using this
 have B3 : Blk W1 (w.heap.size + 1 + 1 + 1) 512 26 (fl 64 (fun _ _ => 0)) := by subst hwo; have := ((Blk.new (((w.alloc (.cells (zb 512 (fl 64 F)) 26)).alloc (.cells (fdC (p : Int) m).toArray 94)).alloc (.cells (zb 512 (fl 64 G)) 26)) 512 26 (fl 64 (fun _ _ => 0))).alloc (.cells (zb 512 (fl 64 (fun _ _ => 0))) 26)); simpa using this
 have B4 : Blk W1 (w.heap.size + 1 + 1 + 1 + 1) 512 26 (fl 64 (fun _ _ => 0)) := by subst hwo; have := (Blk.new ((((w.alloc (.cells (zb 512 (fl 64 F)) 26)).alloc (.cells (fdC (p : Int) m).toArray 94)).alloc (.cells (zb 512 (fl 64 G)) 26)).alloc (.cells (zb 512 (fl 64 (fun _ _ => 0))) 26)) 512 26 (fl 64 (fun _ _ => 0))); simpa using this
 have hb : Below w.heap.size w W1 := by subst hwo; exact ((((((Below.refl _ _).alloc (Nat.le_refl _) _).alloc (by simp) _).alloc (by simp; omega) _).alloc (by simp; omega) _).alloc (by simp; omega) _)
 rw [← hwo]
 clear hwo
 go_upto_region 2 with (first | rw [← z64] | rw [← zero512])
 have lt_B0 := B0.lt
 have lt_B1 := B1.lt
 have lt_B2 := B2.lt
 have lt_B3 := B3.lt
 have lt_B4 := B4.lt
 have lhb := hb.size
 obtain ⟨W2, hwo, hzQ⟩ : ∃ v : World, v = (W1.alloc (.cells (zb 512 (fl 64 (fun _ _ => 0))) 26)) ∧ Blk v (w.heap.size) 512 26 (fl 64 F) ∧ Row v (w.heap.size + 1) 94 (fdC (p : Int) m).toArray ∧ Blk v (w.heap.size + 1 + 1) 512 26 (fl 64 G) ∧ Blk v (w.heap.size + 1 + 1 + 1) 512 26 (fl 64 (fun _ _ => 0)) ∧ Blk v (w.heap.size + 1 + 1 + 1 + 1) 512 26 (fl 64 (fun _ _ => 0)) ∧ Blk v (W1.heap.size) 512 26 (fl 64 (fun _ _ => 0)) ∧ Below w.heap.size w v := ⟨_, rfl, (B0.alloc (.cells (zb 512 (fl 64 (fun _ _ => 0))) 26)), (B1.alloc (.cells (zb 512 (fl 64 (fun _ _ => 0))) 26)), (B2.alloc (.cells (zb 512 (fl 64 (fun _ _ => 0))) 26)), (B3.alloc (.cells (zb 512 (fl 64 (fun _ _ => 0))) 26)), (B4.alloc (.cells (zb 512 (fl 64 (fun _ _ => 0))) 26)), (Blk.new W1 512 26 (fl 64 (fun _ _ => 0))), (hb.alloc (by have := hb.size; simp; omega) (.cells (zb 512 (fl 64 (fun _ _ => 0))) 26))⟩
 rw [← hwo]
 clear hwo B0 B1 B2 B3 B4 hb
 obtain ⟨B0, B1, B2, B3, B4, B5, hb⟩ := hzQ
 obtain ⟨N1, hNN⟩ : ∃ n : Nat, n = W1.heap.size := ⟨_, rfl⟩
 rw [← hNN] at lt_B0 lt_B1 lt_B2 lt_B3 lt_B4 lhb B5 ⊢
 clear hNN
 have zN1_0 := lt_B0
 have zN1_1 := lt_B1
 have zN1_2 := lt_B2
 have zN1_3 := lt_B3
 have zN1_4 := lt_B4
 have zN1 := lhb
 clear lt_B0 lt_B1 lt_B2 lt_B3 lt_B4 lhb
 try simp only [Act.put, pA, pB, pC]
 refine zq Try.mixed (by kernel_rfl) (by kernel_rfl) (fun v => by (simp only [frL, Act.put, pA, pB, pC, Nat.reduceAdd, Nat.zero_add]; exact rfl))
  (fun L v W3 => Below W2.heap.size W2 W3 ∧ VF L v [some (.agg (zb 512 (fl 64 F))), some (.int .i64 (n : Int)), some (.agg (zb 512 (fl 64 G))), some (.int .i64 (k : Int)), some (.int .i64 (q : Int)), some (.int .i64 (q : Int))]) ?_ ?_ ?_
 · intro v hv0
   exact ⟨(Below.refl _ W2).drew, VF.start⟩
 · refine (.cons rfl ?_ (.cons rfl ?_ (.cons rfl ?_ (.cons rfl ?_ (.cons rfl ?_ (.cons rfl ?_ (.nil _)))))))
   all_goals intro L v W3 hd hn ⟨hY, V⟩ K hK
   · refine zlc (B0.zw hY) Try.underlying26 Try.size26 ?_
     exact hK _ _ _ rfl ⟨hY, V.step 0 rfl⟩
   · have e0 := V.at (zdq hd 0 rfl) rfl
     go_wp2_with (go_at_call 86; refine (HDF.out _).mono ?_; rintro e wy ⟨rfl, hy⟩)
     exact hK _ (.int .i64 (n : Int)) _ (by simp only [Act.put, pA, pB, pC, e0]) ⟨hY.trans (hy.mono hY.size), V.step 1 rfl⟩
   · refine zlc (B2.zw hY) Try.underlying26 Try.size26 ?_
     exact hK _ _ _ rfl ⟨hY, V.step 2 rfl⟩
   · have e2 := V.at (zdq hd 2 rfl) rfl
     go_wp2_with (go_at_call 86; refine (HDG.out _).mono ?_; rintro e wy ⟨rfl, hy⟩)
     exact hK _ (.int .i64 (k : Int)) _ (by simp only [Act.put, pA, pB, pC, e2]) ⟨hY.trans (hy.mono hY.size), V.step 3 rfl⟩
   · have e1 := V.at (zdq hd 1 rfl) rfl
     have e3 := V.at (zdq hd 3 rfl) rfl
     go_wp2_with fail
     exact hK _ (.int .i64 (q : Int)) _ (by simp only [Act.put, pA, pB, pC, e1, e3]) ⟨hY, V.step 4 rfl⟩
   · have e4 := V.at (zdq hd 4 rfl) rfl
     go_wp2_with fail
     exact hK _ (.int .i64 (q : Int)) _ (by simp only [Act.put, pA, pB, pC, e4]) ⟨hY, V.step 5 rfl⟩
 · intro L v W3 hL ⟨hY, V⟩
   have e0 := V.at (hL 0 (by decide)) rfl
   have e1 := V.at (hL 1 (by decide)) rfl
   have e2 := V.at (hL 2 (by decide)) rfl
   have e3 := V.at (hL 3 (by decide)) rfl
   have e4 := V.at (hL 4 (by decide)) rfl
   have e5 := V.at (hL 5 (by decide)) rfl
   clear hL V
   replace B0 := B0.zw hY
   replace B1 := B1.zw hY
   replace B2 := B2.zw hY
   replace B3 := B3.zw hY
   replace B4 := B4.zw hY
   replace B5 := B5.zw hY
   replace hb := hb.trans (hY.mono hb.size)
   clear hY
   simp only [Exit.then, e0, e1, e2, e3, e4, e5]
   clear e0 e1 e2 e3 e4 e5
   go_upto_region 3 with (fail)
   have lt_B0 : (w.heap.size) < W3.heap.size := B0.lt
   have lt_B1 : (w.heap.size + 1) < W3.heap.size := B1.lt
   have lt_B2 : (w.heap.size + 1 + 1) < W3.heap.size := B2.lt
   have lt_B3 : (w.heap.size + 1 + 1 + 1) < W3.heap.size := B3.lt
   have lt_B4 : (w.heap.size + 1 + 1 + 1 + 1) < W3.heap.size := B4.lt
   have lt_B5 : (N1) < W3.heap.size := B5.lt
   have hbase : w.heap.size ≤ W3.heap.size := hb.size
   refine zq Try.mixed (by kernel_rfl) (by kernel_rfl) (fun v => by (simp only [frL, Act.put, pA, pB, pC, Nat.reduceAdd, Nat.zero_add]; exact rfl))
    (fun L v W4 => Below w.heap.size w W4 ∧ Kx [N1] W3 W4 ∧ (∃ g, Blk W4 (N1) 512 26 (g)) ∧ (L 11 = false → Blk W4 (N1) 512 26 (fl 64 (fun _ _ => 0))) ∧ (L 11 = true → Blk W4 (N1) 512 26 (fl 64 (updR (fun _ _ => 0) q (mmP p (F n) (bzU p (frN p m (G k) (q % d)) m) m)))) ∧ VF L v [some (.int .i64 (q : Int)), some (.agg (fdC (p : Int) m).toArray), some (.agg (zb 512 (fl 64 F))), some (.agg (zb 64 (F n))), some (.agg (fdC (p : Int) m).toArray), some (.agg (zb 512 (fl 64 G))), some (.agg (zb 64 (G k))), some (.int .i64 (q : Int)), some (.agg (zb 64 (frN p m (G k) (q % d)))), some (.agg (zb 64 (mmP p (F n) (bzU p (frN p m (G k) (q % d)) m) m))), some (.pointer (some ⟨N1, q * 64, none⟩)), none]) ?_ ?_ ?_
   · intro v hv0
     exact ⟨hb.drew, Kx.start _ _, ⟨_, B5.drew⟩, (fun _ => B5.drew), (fun h => by cases h), VF.start⟩
   · refine (.cons rfl ?_ (.cons rfl ?_ (.cons rfl ?_ (.cons rfl ?_ (.cons rfl ?_ (.cons rfl ?_ (.cons rfl ?_ (.cons rfl ?_ (.cons rfl ?_ (.cons rfl ?_ (.cons rfl ?_ (.cons rfl ?_ (.nil _)))))))))))))
     all_goals intro L v W4 hd hn ⟨hB, hX, x5, q5, n5, V⟩ K hK
     · go_wp2_with fail
       exact hK _ (.int .i64 (q : Int)) _ (by simp only [Act.put, pA, pB, pC ]) ⟨hB, hX, x5, q5, n5, V.step 0 rfl⟩
     · refine wp_load_rowv 94 _ rfl _ rfl 94 _ (B1.kx hX (by simp <;> omega)) _ Try.underlying94 rfl 65 Try.size94 (by simp [fdC_len]) ?_
       exact hK _ _ _ rfl ⟨hB, hX, x5, q5, n5, V.step 1 rfl⟩
     · refine wp_load_any 26 _ rfl _ rfl 512 26 _ (B0.kx hX (by simp <;> omega)) _ Try.underlying26 rfl Try.size26 ?_
       exact hK _ _ _ rfl ⟨hB, hX, x5, q5, n5, V.step 2 rfl⟩
     · have e2 := V.at (zdq hd 2 rfl) rfl
       go_wp2_with (go_at_call 186; refine (HLF.out _).mono ?_; rintro e wy ⟨rfl, hy⟩)
       exact hK _ (.agg (zb 64 (F n))) _ (by simp only [Act.put, pA, pB, pC, e2]) ⟨hB.trans (hy.mono hB.size), hX.below hy, (let ⟨g, h⟩ := x5; ⟨g, h.zw hy⟩), (fun h => (q5 h).below hy (q5 h).lt), (fun h => (n5 h).below hy (n5 h).lt), V.step 3 rfl⟩
     · refine wp_load_rowv 94 _ rfl _ rfl 94 _ (B1.kx hX (by simp <;> omega)) _ Try.underlying94 rfl 65 Try.size94 (by simp [fdC_len]) ?_
       exact hK _ _ _ rfl ⟨hB, hX, x5, q5, n5, V.step 4 rfl⟩
     · refine wp_load_any 26 _ rfl _ rfl 512 26 _ (B2.kx hX (by simp <;> omega)) _ Try.underlying26 rfl Try.size26 ?_
       exact hK _ _ _ rfl ⟨hB, hX, x5, q5, n5, V.step 5 rfl⟩
     · have e5 := V.at (zdq hd 5 rfl) rfl
       go_wp2_with (go_at_call 186; refine (HLG.out _).mono ?_; rintro e wy ⟨rfl, hy⟩)
       exact hK _ (.agg (zb 64 (G k))) _ (by simp only [Act.put, pA, pB, pC, e5]) ⟨hB.trans (hy.mono hB.size), hX.below hy, (let ⟨g, h⟩ := x5; ⟨g, h.zw hy⟩), (fun h => (q5 h).below hy (q5 h).lt), (fun h => (n5 h).below hy (n5 h).lt), V.step 6 rfl⟩
     · go_wp2_with fail
       exact hK _ (.int .i64 (q : Int)) _ (by simp only [Act.put, pA, pB, pC ]) ⟨hB, hX, x5, q5, n5, V.step 7 rfl⟩
     · have e4 := V.at (zdq hd 4 rfl) rfl
       have e6 := V.at (zdq hd 6 rfl) rfl
       have e7 := V.at (zdq hd 7 rfl) rfl
       go_wp2_with (go_at_call 179; refine (HFB.out _).mono ?_; rintro e wy ⟨rfl, hy⟩)
       exact hK _ (.agg (zb 64 (frN p m (G k) (q % d)))) _ (by simp only [Act.put, pA, pB, pC, e4, e6, e7]) ⟨hB.trans (hy.mono hB.size), hX.below hy, (let ⟨g, h⟩ := x5; ⟨g, h.zw hy⟩), (fun h => (q5 h).below hy (q5 h).lt), (fun h => (n5 h).below hy (n5 h).lt), V.step 8 rfl⟩
     · have e1 := V.at (zdq hd 1 rfl) rfl
       have e3 := V.at (zdq hd 3 rfl) rfl
       have e8 := V.at (zdq hd 8 rfl) rfl
       go_wp2_with (go_at_call 185; refine (HQ.out _).mono ?_; rintro e wy ⟨rfl, hy⟩)
       exact hK _ (.agg (zb 64 (mmP p (F n) (bzU p (frN p m (G k) (q % d)) m) m))) _ (by simp only [Act.put, pA, pB, pC, e1, e3, e8]) ⟨hB.trans (hy.mono hB.size), hX.below hy, (let ⟨g, h⟩ := x5; ⟨g, h.zw hy⟩), (fun h => (q5 h).below hy (q5 h).lt), (fun h => (n5 h).below hy (n5 h).lt), V.step 9 rfl⟩
     · have e0 := V.at (zdq hd 0 rfl) rfl
       go_wp2_with fail
       exact hK _ (.pointer (some ⟨N1, q * 64, none⟩)) _ (by simp only [Act.put, pA, pB, pC, e0]) ⟨hB, hX, x5, q5, n5, V.step 10 rfl⟩
     · have e10 := V.at (zdq hd 10 rfl) rfl
       have e9 := V.at (zdq hd 9 rfl) rfl
       obtain ⟨gz, hk, hg⟩ : ∃ gz, Blk W4 (N1) 512 26 (fl 64 gz) ∧ updR gz (q) (mmP p (F n) (bzU p (frN p m (G k) (q % d)) m) m) = updR (fun _ _ => 0) (q) (mmP p (F n) (bzU p (frN p m (G k) (q % d)) m) m) := by
        cases hL : L 11 with
        | false => exact ⟨_, q5 hL, rfl⟩
        | true => exact ⟨_, n5 hL, updR_twice _ _ _⟩
       refine wp_store_sk 24 _ _ rfl _ (q) (mmP p (F n) (bzU p (frN p m (G k) (q % d)) m) m) e10 e9 26 gz hk (by omega) Try.size24 ?_
       rw [hg]
       exact hK _ undef _ rfl ⟨zr hB (by omega) _, hX.row (by simp) _, ⟨_, hk.row _⟩, (fun h => absurd h (by simp [setL])), (fun _ => hk.row _), V.skip 11 rfl⟩
   · intro L v W4 hL ⟨hB, hX, x5, q5, n5, V⟩
     have r5 := n5 (hL 11 (by decide))
     have e0 := V.at (hL 0 (by decide)) rfl
     have e1 := V.at (hL 1 (by decide)) rfl
     have e2 := V.at (hL 2 (by decide)) rfl
     have e3 := V.at (hL 3 (by decide)) rfl
     have e4 := V.at (hL 4 (by decide)) rfl
     have e5 := V.at (hL 5 (by decide)) rfl
     have e6 := V.at (hL 6 (by decide)) rfl
     have e7 := V.at (hL 7 (by decide)) rfl
     have e8 := V.at (hL 8 (by decide)) rfl
     have e9 := V.at (hL 9 (by decide)) rfl
     have e10 := V.at (hL 10 (by decide)) rfl
     clear hL x5 q5 n5 V
     replace B0 := B0.kx hX (by simp <;> omega)
     replace B1 := B1.kx hX (by simp <;> omega)
     replace B2 := B2.kx hX (by simp <;> omega)
     replace B3 := B3.kx hX (by simp <;> omega)
     replace B4 := B4.kx hX (by simp <;> omega)
     clear hX
     simp only [Exit.then, e0, e1, e2, e3, e4, e5, e6, e7, e8, e9, e10]
     clear e0 e1 e2 e3 e4 e5 e6 e7 e8 e9 e10
     replace B5 := r5
     clear r5
     replace hb := hB
     clear hB
     clear hbase lt_B0 lt_B1 lt_B2 lt_B3 lt_B4 lt_B5
     go_upto_region 4 with (fail)
     have lt_B0 : (w.heap.size) < W4.heap.size := B0.lt
     have lt_B1 : (w.heap.size + 1) < W4.heap.size := B1.lt
     have lt_B2 : (w.heap.size + 1 + 1) < W4.heap.size := B2.lt
     have lt_B3 : (w.heap.size + 1 + 1 + 1) < W4.heap.size := B3.lt
     have lt_B4 : (w.heap.size + 1 + 1 + 1 + 1) < W4.heap.size := B4.lt
     have lt_B5 : (N1) < W4.heap.size := B5.lt
     have hbase : w.heap.size ≤ W4.heap.size := hb.size
     refine zq Try.mixed (by kernel_rfl) (by kernel_rfl) (fun v => by (simp only [frL, Act.put, pA, pB, pC, Nat.reduceAdd, Nat.zero_add]; exact rfl))
      (fun L v W5 => Below w.heap.size w W5 ∧ Kx [w.heap.size + 1 + 1 + 1, w.heap.size + 1 + 1 + 1 + 1] W4 W5 ∧ (∃ g, Blk W5 (w.heap.size + 1 + 1 + 1) 512 26 (g)) ∧ (L 5 = false → Blk W5 (w.heap.size + 1 + 1 + 1) 512 26 (fl 64 (fun _ _ => 0))) ∧ (L 5 = true → Blk W5 (w.heap.size + 1 + 1 + 1) 512 26 (fl 64 (updR (fun _ _ => 0) q (mmP p (F n) (bzU p (frN p m (G k) (q % d)) m) m)))) ∧ (∃ g, Blk W5 (w.heap.size + 1 + 1 + 1 + 1) 512 26 (g)) ∧ (L 6 = false → Blk W5 (w.heap.size + 1 + 1 + 1 + 1) 512 26 (fl 64 (fun _ _ => 0))) ∧ (L 6 = true → Blk W5 (w.heap.size + 1 + 1 + 1 + 1) 512 26 (fl 64 (tmP p m d (dvT p m d F G) G))) ∧ VF L v [some (.agg (zb 512 (fl 64 (updR (fun _ _ => 0) q (mmP p (F n) (bzU p (frN p m (G k) (q % d)) m) m))))), some (.agg (zb 512 (fl 64 (updR (fun _ _ => 0) q (mmP p (F n) (bzU p (frN p m (G k) (q % d)) m) m))))), some (.agg (fdC (p : Int) m).toArray), some (.agg (zb 512 (fl 64 G))), some (.agg (zb 512 (fl 64 (tmP p m d (dvT p m d F G) G)))), none, none]) ?_ ?_ ?_
     · intro v hv0
       exact ⟨hb.drew, Kx.start _ _, ⟨_, B3.drew⟩, (fun _ => B3.drew), (fun h => by cases h), ⟨_, B4.drew⟩, (fun _ => B4.drew), (fun h => by cases h), VF.start⟩
     · refine (.cons rfl ?_ (.cons rfl ?_ (.cons rfl ?_ (.cons rfl ?_ (.cons rfl ?_ (.cons rfl ?_ (.cons rfl ?_ (.nil _))))))))
       all_goals intro L v W5 hd hn ⟨hB, hX, x3, q3, n3, x4, q4, n4, V⟩ K hK
       · refine wp_load_any 26 _ rfl _ rfl 512 26 _ (B5.kx hX (by simp <;> omega)) _ Try.underlying26 rfl Try.size26 ?_
         exact hK _ _ _ rfl ⟨hB, hX, x3, q3, n3, x4, q4, n4, V.step 0 rfl⟩
       · refine wp_load_any 26 _ rfl _ rfl 512 26 _ (B5.kx hX (by simp <;> omega)) _ Try.underlying26 rfl Try.size26 ?_
         exact hK _ _ _ rfl ⟨hB, hX, x3, q3, n3, x4, q4, n4, V.step 1 rfl⟩
       · refine wp_load_rowv 94 _ rfl _ rfl 94 _ (B1.kx hX (by simp <;> omega)) _ Try.underlying94 rfl 65 Try.size94 (by simp [fdC_len]) ?_
         exact hK _ _ _ rfl ⟨hB, hX, x3, q3, n3, x4, q4, n4, V.step 2 rfl⟩
       · refine wp_load_any 26 _ rfl _ rfl 512 26 _ (B2.kx hX (by simp <;> omega)) _ Try.underlying26 rfl Try.size26 ?_
         exact hK _ _ _ rfl ⟨hB, hX, x3, q3, n3, x4, q4, n4, V.step 3 rfl⟩
       · have e1 := V.at (zdq hd 1 rfl) rfl
         have e2 := V.at (zdq hd 2 rfl) rfl
         have e3 := V.at (zdq hd 3 rfl) rfl
         go_wp2_with (go_at_call 87; refine (HTM.out _).mono ?_; rintro e wy ⟨rfl, hy⟩)
         exact hK _ (.agg (zb 512 (fl 64 (tmP p m d (dvT p m d F G) G)))) _ (by simp only [Act.put, pA, pB, pC, e1, e2, e3]) ⟨hB.trans (hy.mono hB.size), hX.below hy, (let ⟨g, h⟩ := x3; ⟨g, h.zw hy⟩), (fun h => (q3 h).below hy (q3 h).lt), (fun h => (n3 h).below hy (n3 h).lt), (let ⟨g, h⟩ := x4; ⟨g, h.zw hy⟩), (fun h => (q4 h).below hy (q4 h).lt), (fun h => (n4 h).below hy (n4 h).lt), V.step 4 rfl⟩
       · have e0 := V.at (zdq hd 0 rfl) rfl
         obtain ⟨gz, hk⟩ := x3
         refine zsb 26 _ _ rfl _ 512 (fl 64 (updR (fun _ _ => 0) q (mmP p (F n) (bzU p (frN p m (G k) (q % d)) m) m))) rfl e0 26 gz hk Try.size26 ?_
         exact hK _ undef _ rfl ⟨zr hB (by omega) _, hX.row (by simp) _, ⟨_, hk.row _⟩, (fun h => absurd h (by simp [setL])), (fun _ => hk.row _), (let ⟨g, h⟩ := x4; ⟨g, (h).rowOther (by omega)⟩), (fun h => (q4 h).rowOther (by omega)), (fun h => (n4 h).rowOther (by omega)), V.skip 5 rfl⟩
       · have e4 := V.at (zdq hd 4 rfl) rfl
         obtain ⟨gz, hk⟩ := x4
         refine zsb 26 _ _ rfl _ 512 (fl 64 (tmP p m d (dvT p m d F G) G)) rfl e4 26 gz hk Try.size26 ?_
         exact hK _ undef _ rfl ⟨zr hB (by omega) _, hX.row (by simp) _, (let ⟨g, h⟩ := x3; ⟨g, (h).rowOther (by omega)⟩), (fun h => (q3 h).rowOther (by omega)), (fun h => (n3 h).rowOther (by omega)), ⟨_, hk.row _⟩, (fun h => absurd h (by simp [setL])), (fun _ => hk.row _), V.skip 6 rfl⟩
     · intro L v W5 hL ⟨hB, hX, x3, q3, n3, x4, q4, n4, V⟩
       have r3 := n3 (hL 5 (by decide))
       have r4 := n4 (hL 6 (by decide))
       have e0 := V.at (hL 0 (by decide)) rfl
       have e1 := V.at (hL 1 (by decide)) rfl
       have e2 := V.at (hL 2 (by decide)) rfl
       have e3 := V.at (hL 3 (by decide)) rfl
       have e4 := V.at (hL 4 (by decide)) rfl
       clear hL x3 q3 n3 x4 q4 n4 V
       replace B0 := B0.kx hX (by simp <;> omega)
       replace B1 := B1.kx hX (by simp <;> omega)
       replace B2 := B2.kx hX (by simp <;> omega)
       replace B5 := B5.kx hX (by simp <;> omega)
       clear hX
       simp only [Exit.then, e0, e1, e2, e3, e4]
       clear e0 e1 e2 e3 e4
       replace B3 := r3
       clear r3
       replace B4 := r4
       clear r4
       replace hb := hB
       clear hB
       clear hbase lt_B0 lt_B1 lt_B2 lt_B3 lt_B4 lt_B5
       go_wp2_with fail
       refine bodyPost_ret (results_any2 rfl _ _ _ 512 _ _ _ 512 _ _ rfl B3 _ Try.underlying26 rfl Try.size26 rfl B4 _ Try.underlying26 rfl Try.size26) rfl ⟨by rw [HT.out], hb⟩
end Go.Proofs.Ytdlojnmggogbaaa
end
section
namespace Go.Proofs.Ytdlojnmggogbaaa
open Go Go.RowKit
set_option linter.unusedVariables false
set_option linter.unusedSimpArgs false
attribute [local irreducible] deg addK strP frI frN mmP pmP resP bzU bzD bzW skA skD
theorem dq_def (p : Nat) (m : Nat → Nat) (d : Nat) (F G : Nat → Nat → Nat) : gdR p (fun F => dvT p m d F G) (fun F => dvF p m d F G) (skD G) 8 (fun _ _ => 0) F = dq p m d F G := by unfold dq; rfl
set_option maxRecDepth 100000 in
set_option maxHeartbeats 1600000 in
theorem skDivR_any (p : Nat) (m : Nat → Nat) (F0 G : Nat → Nat → Nat) (w : World) (hpr : p = 2 ∨ p = 3 ∨ p = 5 ∨ p = 7) (lm : ∀ k, k < 64 → m k < p) (d : Nat) (hmon : mon m d) (hi : irr p (cut m) d) (hd9 : d ≤ 9) (hF : rsk p m F0) (hG : rsk p m G) (hG0 : 0 ≤ skD G) :
 Calls Try.prog 184 #[.agg (zb 512 (fl 64 F0)), .agg (fdC (p : Int) m).toArray, .agg (zb 512 (fl 64 G)), .func (.func 91) #[] #[]] w fun e w' => e = .returned (.tuple #[.agg (zb 512 (fl 64 (dq p m d F0 G).1)), .agg (zb 512 (fl 64 (dq p m d F0 G).2))]) ∧ Below w.heap.size w w' := by
 have p0 : 0 < p := by omega
 have hd := hmon.1
 have hd1 := hi.1
 have h0 : 0 ≤ deg m := by omega
 have h9 : deg m ≤ 9 := by omega
 have p2 : 2 ≤ p := by omega
 have p7 : p ≤ 7 := by omega
 have HI0 := Lib.hid (show gdR p (fun F => dvT p m d F G) (fun F => dvF p m d F G) (skD G) 8 (fun _ _ => 0) F0 = dq p m d F0 G ∧ skD F0 < ((8 : Nat) : Int) ∧ rsk p m (fun _ _ => 0) ∧ rsk p m F0 from ⟨dq_def p m d F0 G, by have := zsd F0; omega, fun _ _ => zero_rsd p0 h0, hF⟩)
 have HS := Lib.hid (fun (F : Nat → Nat → Nat) (hF : rsk p m F) (h : skD G ≤ skD F) => dv_step hpr lm hmon hi hd9 hF hG hG0 h)
 have HST := Lib.hid (fun (F : Nat → Nat → Nat) (hF : rsk p m F) (h : skD G ≤ skD F) W => rightStep_any p m F G W hpr lm d hmon hi hd9 hF hG hG0 h)
 have HPL := Lib.hid (fun (Q T : Nat → Nat → Nat) (hQ : rsk p m Q) (hT : rsk p m T) W => skPlus_any p m Q T W p2 p7 (fun i hi8 => (hQ i hi8).1) (fun i hi8 => (hT i hi8).1))
 have HMI := Lib.hid (fun (Q T : Nat → Nat → Nat) (hQ : rsk p m Q) (hT : rsk p m T) W => skMinus_any p m Q T W p2 p7 (fun i hi8 => (hQ i hi8).1) (fun i hi8 => (hT i hi8).1))
 have HP := Lib.hid (fun (F G : Nat → Nat → Nat) => show rsk p m (tmP p m d F G) from fun i _ => tmP_rsd hpr lm h0 i)
 have HA := Lib.hid (fun (Q T : Nat → Nat → Nat) (hQ : rsk p m Q) (hT : rsk p m T) => show rsk p m (skA p Q T 1) from skA_rsk p0 h0 hQ hT)
 clear hF hG hd hd1 h0 h9 hmon hi lm hpr
 have HG0 := Lib.hid hG0
 clear hG0
 go_enter Try.func184, Try.ntmps184
 go_upto_region 1 with (fail)
 rw [← zero512]
 obtain ⟨W1, hwo⟩ : ∃ v : World, v = (((((w.alloc (.cells (zb 512 (fl 64 F0)) 26)).alloc (.cells (fdC (p : Int) m).toArray 94)).alloc (.cells (zb 512 (fl 64 G)) 26)).alloc (.cells (zb 512 (fl 64 (fun _ _ => 0))) 26)).alloc (.cells (zb 512 (fl 64 (fun _ _ => 0))) 26)) := ⟨_, rfl⟩
 have B0 : Blk W1 (w.heap.size) 512 26 (fl 64 F0) := by subst hwo; have := (((((Blk.new w 512 26 (fl 64 F0)).alloc (.cells (fdC (p : Int) m).toArray 94)).alloc (.cells (zb 512 (fl 64 G)) 26)).alloc (.cells (zb 512 (fl 64 (fun _ _ => 0))) 26)).alloc (.cells (zb 512 (fl 64 (fun _ _ => 0))) 26)); simpa using this
 have B1 : Row W1 (w.heap.size + 1) 94 (fdC (p : Int) m).toArray := by subst hwo; have := ((((Row.new (w.alloc (.cells (zb 512 (fl 64 F0)) 26)) 94 (fdC (p : Int) m).toArray).alloc (.cells (zb 512 (fl 64 G)) 26)).alloc (.cells (zb 512 (fl 64 (fun _ _ => 0))) 26)).alloc (.cells (zb 512 (fl 64 (fun _ _ => 0))) 26)); simpa using this
 have B2 : Blk W1 (w.heap.size + 1 + 1) 512 26 (fl 64 G) := by subst hwo; have := (((Blk.new ((w.alloc (.cells (zb 512 (fl 64 F0)) 26)).alloc (.cells (fdC (p : Int) m).toArray 94)) 512 26 (fl 64 G)).alloc (.cells (zb 512 (fl 64 (fun _ _ => 0))) 26)).alloc (.cells (zb 512 (fl 64 (fun _ _ => 0))) 26)); simpa using this
 have B3 : Blk W1 (w.heap.size + 1 + 1 + 1) 512 26 (fl 64 (fun _ _ => 0)) := by subst hwo; have := ((Blk.new (((w.alloc (.cells (zb 512 (fl 64 F0)) 26)).alloc (.cells (fdC (p : Int) m).toArray 94)).alloc (.cells (zb 512 (fl 64 G)) 26)) 512 26 (fl 64 (fun _ _ => 0))).alloc (.cells (zb 512 (fl 64 (fun _ _ => 0))) 26)); simpa using this
 have B4 : Blk W1 (w.heap.size + 1 + 1 + 1 + 1) 512 26 (fl 64 (fun _ _ => 0)) := by subst hwo; have := (Blk.new ((((w.alloc (.cells (zb 512 (fl 64 F0)) 26)).alloc (.cells (fdC (p : Int) m).toArray 94)).alloc (.cells (zb 512 (fl 64 G)) 26)).alloc (.cells (zb 512 (fl 64 (fun _ _ => 0))) 26)) 512 26 (fl 64 (fun _ _ => 0))); simpa using this
 have hb : Below w.heap.size w W1 := by subst hwo; exact ((((((Below.refl _ _).alloc (Nat.le_refl _) _).alloc (by simp) _).alloc (by simp; omega) _).alloc (by simp; omega) _).alloc (by simp; omega) _)
 rw [← hwo]
 clear hwo
 go_upto_region 2 with (first | rw [← z64] | rw [← zero512])
 have lt_B0 := B0.lt
 have lt_B1 := B1.lt
 have lt_B2 := B2.lt
 have lt_B3 := B3.lt
 have lt_B4 := B4.lt
 have lhb := hb.size
 obtain ⟨W2, hwo, hzQ⟩ : ∃ v : World, v = (W1.alloc (.cells (zb 512 (fl 64 (fun _ _ => 0))) 26)) ∧ Blk v (w.heap.size) 512 26 (fl 64 F0) ∧ Row v (w.heap.size + 1) 94 (fdC (p : Int) m).toArray ∧ Blk v (w.heap.size + 1 + 1) 512 26 (fl 64 G) ∧ Blk v (w.heap.size + 1 + 1 + 1) 512 26 (fl 64 (fun _ _ => 0)) ∧ Blk v (w.heap.size + 1 + 1 + 1 + 1) 512 26 (fl 64 (fun _ _ => 0)) ∧ Blk v (W1.heap.size) 512 26 (fl 64 (fun _ _ => 0)) ∧ Below w.heap.size w v := ⟨_, rfl, (B0.alloc (.cells (zb 512 (fl 64 (fun _ _ => 0))) 26)), (B1.alloc (.cells (zb 512 (fl 64 (fun _ _ => 0))) 26)), (B2.alloc (.cells (zb 512 (fl 64 (fun _ _ => 0))) 26)), (B3.alloc (.cells (zb 512 (fl 64 (fun _ _ => 0))) 26)), (B4.alloc (.cells (zb 512 (fl 64 (fun _ _ => 0))) 26)), (Blk.new W1 512 26 (fl 64 (fun _ _ => 0))), (hb.alloc (by have := hb.size; simp; omega) (.cells (zb 512 (fl 64 (fun _ _ => 0))) 26))⟩
 rw [← hwo]
 clear hwo B0 B1 B2 B3 B4 hb
 obtain ⟨B0, B1, B2, B3, B4, B5, hb⟩ := hzQ
 obtain ⟨N1, hNN⟩ : ∃ n : Nat, n = W1.heap.size := ⟨_, rfl⟩
 rw [← hNN] at lt_B0 lt_B1 lt_B2 lt_B3 lt_B4 lhb B5 ⊢
 clear hNN
 have zN1_0 := lt_B0
 have zN1_1 := lt_B1
 have zN1_2 := lt_B2
 have zN1_3 := lt_B3
 have zN1_4 := lt_B4
 have zN1 := lhb
 clear lt_B0 lt_B1 lt_B2 lt_B3 lt_B4 lhb
 try simp only [Act.put, pA, pB, pC]
 go_wp2_with fail
 go_loopw [13] (fun c wr => ∃ (fu : Nat) (Q F : Nat → Nat → Nat), Hid (gdR p (fun F => dvT p m d F G) (fun F => dvF p m d F G) (skD G) fu Q F = dq p m d F0 G ∧ skD F < (fu : Int) ∧ rsk p m Q ∧ rsk p m F) ∧ Below w.heap.size w wr ∧ Blk wr (w.heap.size) 512 26 (fl 64 F) ∧ Row wr (w.heap.size + 1) 94 (fdC (p : Int) m).toArray ∧ Blk wr (w.heap.size + 1 + 1) 512 26 (fl 64 G) ∧ Blk wr (w.heap.size + 1 + 1 + 1) 512 26 (fl 64 (fun _ _ => 0)) ∧ Blk wr (w.heap.size + 1 + 1 + 1 + 1) 512 26 (fl 64 (fun _ _ => 0)) ∧ Blk wr (N1) 512 26 (fl 64 Q)) (fun _ wr => skAt wr (w.heap.size))
 case atStart => exact ⟨8, _, _, HI0, hb, B0, B1, B2, B3, B4, B5⟩
 case round =>
  clear hb B0 B1 B2 B3 B4 B5 HI0
  obtain ⟨fu, Q, F, hI, hb, B0, B1, B2, B3, B4, B5⟩ := hrel
  have BF0 := Lib.hid B0
  by_cases hge : skD G ≤ skD F
  · obtain ⟨i1, i2, i3, i4⟩ := hI.out
    obtain ⟨s1, s2, s3, s4, s5, s6⟩ := HS.out F i4 hge
    obtain ⟨fu, rfl⟩ : ∃ x, fu = x + 1 := ⟨fu - 1, by have := HG0.out; omega⟩
    have hI2 := Lib.hid (show gdR p (fun F => dvT p m d F G) (fun F => dvF p m d F G) (skD G) fu (skA p Q (dvT p m d F G) 1) (dvF p m d F G) = dq p m d F0 G ∧ skD (dvF p m d F G) < (fu : Int) ∧ rsk p m (skA p Q (dvT p m d F G) 1) ∧ rsk p m (dvF p m d F G) from ⟨by rw [← i1, gdR_step (by omega)], by omega, HA.out _ _ i3 s4, s5⟩)
    have HK1 := Lib.hid (HST.out F i4 hge)
    have HK2 := Lib.hid (HPL.out Q (dvT p m d F G) i3 s4)
    have HK3 := Lib.hid (HMI.out F (tmP p m d (dvT p m d F G) G) i4 (HP.out _ _))
    have HM := Lib.hid s6
    clear i1 i2 i3 i4 s1 s2 s3 s4 s5 s6 hI
    go_upto_region 2 with (fail)
    refine zq Try.mixed (by kernel_rfl) (by kernel_rfl) (fun v => by (simp only [frL, Act.put, pA, pB, pC, Nat.reduceAdd, Nat.zero_add]; exact rfl))
     (fun L v W3 => Below wr.heap.size wr W3 ∧ VF L v [some (.agg (zb 512 (fl 64 F))), some (.int .i64 (skD F)), some (.agg (zb 512 (fl 64 G))), some (.int .i64 (skD G)), some (.bool true)]) ?_ ?_ ?_
    · intro v hv0
      exact ⟨(Below.refl _ wr).drew, VF.start⟩
    · refine (.cons rfl ?_ (.cons rfl ?_ (.cons rfl ?_ (.cons rfl ?_ (.cons rfl ?_ (.nil _))))))
      all_goals intro L v W3 hd hn ⟨hY, V⟩ K hK
      · refine zlc (B0.zw hY) Try.underlying26 Try.size26 ?_
        exact hK _ _ _ rfl ⟨hY, V.step 0 rfl⟩
      · have e0 := V.at (zdq hd 0 rfl) rfl
        go_wp2_with (go_at_call 86; refine (skDegree_any F _).mono ?_; rintro e wy ⟨rfl, hy⟩)
        exact hK _ (.int .i64 (skD F)) _ (by simp only [Act.put, pA, pB, pC, e0]) ⟨hY.trans (hy.mono hY.size), V.step 1 rfl⟩
      · refine zlc (B2.zw hY) Try.underlying26 Try.size26 ?_
        exact hK _ _ _ rfl ⟨hY, V.step 2 rfl⟩
      · have e2 := V.at (zdq hd 2 rfl) rfl
        go_wp2_with (go_at_call 86; refine (skDegree_any G _).mono ?_; rintro e wy ⟨rfl, hy⟩)
        exact hK _ (.int .i64 (skD G)) _ (by simp only [Act.put, pA, pB, pC, e2]) ⟨hY.trans (hy.mono hY.size), V.step 3 rfl⟩
      · have e1 := V.at (zdq hd 1 rfl) rfl
        have e3 := V.at (zdq hd 3 rfl) rfl
        go_wp2_with fail
        try rw [show decide (skD G ≤ skD F) = true by simpa using hge]
        exact hK _ (.bool true) _ (by simp only [Act.put, pA, pB, pC, e1, e3]) ⟨hY, V.step 4 rfl⟩
    · intro L v W3 hL ⟨hY, V⟩
      have e0 := V.at (hL 0 (by decide)) rfl
      have e1 := V.at (hL 1 (by decide)) rfl
      have e2 := V.at (hL 2 (by decide)) rfl
      have e3 := V.at (hL 3 (by decide)) rfl
      have e4 := V.at (hL 4 (by decide)) rfl
      clear hL V
      replace B0 := B0.zw hY
      replace B1 := B1.zw hY
      replace B2 := B2.zw hY
      replace B3 := B3.zw hY
      replace B4 := B4.zw hY
      replace B5 := B5.zw hY
      replace hb := hb.trans (hY.mono hb.size)
      clear hY
      simp only [Exit.then, e0, e1, e2, e3, e4]
      clear e0 e1 e2 e3 e4
      go_upto_region 3 with (fail)
      have lt_B0 := B0.lt
      have lt_B1 := B1.lt
      have lt_B2 := B2.lt
      have lt_B3 := B3.lt
      have lt_B4 := B4.lt
      have lt_B5 := B5.lt
      go_upto_region 4 with (first | rw [← z64] | rw [← zero512] | (refine zla (.tmp 4) B0 Try.underlying26 Try.size26 ?_) | (refine zlr rfl 94 (.tmp 5) rfl _ rfl 94 (fdC (p : Int) m).toArray B1 _ Try.underlying94 rfl 65 Try.size94 (by simp [fdC_len]) ?_) | (refine zla (.tmp 6) B2 Try.underlying26 Try.size26 ?_) | (go_at_call 91; refine (HK1.out _).mono ?_; rintro e W4 ⟨rfl, hW4⟩; replace B0 := B0.zw hW4; replace B1 := B1.zw hW4; replace B2 := B2.zw hW4; replace B3 := B3.zw hW4; replace B4 := B4.zw hW4; replace B5 := B5.zw hW4; replace hb := (hb).trans (hW4.mono (hb).size)) | (refine wpList_store_blk rfl 26 (.tmp 11) (.tmp 24) rfl _ 512 (fl 64 (dvT p m d F G)) rfl rfl 26 _ (((Blk.new W4 512 26 (fl 64 (fun _ _ => 0))).alloc (.cells (zb 512 (fl 64 (fun _ _ => 0))) 26))) Try.size26 ?_; try simp only [Act.put]) | (refine wpList_store_blk rfl 26 (.tmp 12) (.tmp 25) rfl _ 512 (fl 64 (tmP p m d (dvT p m d F G) G)) rfl rfl 26 _ (((show Blk ((W4.alloc (.cells (zb 512 (fl 64 (fun _ _ => 0))) 26)).alloc (.cells (zb 512 (fl 64 (fun _ _ => 0))) 26)) (W4.heap.size + 1) 512 26 (fl 64 (fun _ _ => 0)) by have := Blk.new (W4.alloc (.cells (zb 512 (fl 64 (fun _ _ => 0))) 26)) 512 26 (fl 64 (fun _ _ => 0)); simpa using this).rowOther (by omega))) Try.size26 ?_; try simp only [Act.put]))
      have lt_B0 := B0.lt
      have lt_B1 := B1.lt
      have lt_B2 := B2.lt
      have lt_B3 := B3.lt
      have lt_B4 := B4.lt
      have lt_B5 := B5.lt
      have lhb := hb.size
      obtain ⟨W5, hwo, hzQ⟩ : ∃ v : World, v = ((((W4.alloc (.cells (zb 512 (fl 64 (fun _ _ => 0))) 26)).alloc (.cells (zb 512 (fl 64 (fun _ _ => 0))) 26)).setRow (W4.heap.size) (zb 512 (fl 64 (dvT p m d F G)))).setRow (W4.heap.size + 1) (zb 512 (fl 64 (tmP p m d (dvT p m d F G) G)))) ∧ Blk v (w.heap.size) 512 26 (fl 64 F) ∧ Row v (w.heap.size + 1) 94 (fdC (p : Int) m).toArray ∧ Blk v (w.heap.size + 1 + 1) 512 26 (fl 64 G) ∧ Blk v (w.heap.size + 1 + 1 + 1) 512 26 (fl 64 (fun _ _ => 0)) ∧ Blk v (w.heap.size + 1 + 1 + 1 + 1) 512 26 (fl 64 (fun _ _ => 0)) ∧ Blk v (N1) 512 26 (fl 64 Q) ∧ Blk v (W4.heap.size) 512 26 (fl 64 (dvT p m d F G)) ∧ Blk v (W4.heap.size + 1) 512 26 (fl 64 (tmP p m d (dvT p m d F G) G)) ∧ Below w.heap.size w v := ⟨_, rfl, ((((B0.alloc (.cells (zb 512 (fl 64 (fun _ _ => 0))) 26)).alloc (.cells (zb 512 (fl 64 (fun _ _ => 0))) 26)).rowOther (by omega)).rowOther (by omega)), ((((B1.alloc (.cells (zb 512 (fl 64 (fun _ _ => 0))) 26)).alloc (.cells (zb 512 (fl 64 (fun _ _ => 0))) 26)).rowOther (by omega)).rowOther (by omega)), ((((B2.alloc (.cells (zb 512 (fl 64 (fun _ _ => 0))) 26)).alloc (.cells (zb 512 (fl 64 (fun _ _ => 0))) 26)).rowOther (by omega)).rowOther (by omega)), ((((B3.alloc (.cells (zb 512 (fl 64 (fun _ _ => 0))) 26)).alloc (.cells (zb 512 (fl 64 (fun _ _ => 0))) 26)).rowOther (by omega)).rowOther (by omega)), ((((B4.alloc (.cells (zb 512 (fl 64 (fun _ _ => 0))) 26)).alloc (.cells (zb 512 (fl 64 (fun _ _ => 0))) 26)).rowOther (by omega)).rowOther (by omega)), ((((B5.alloc (.cells (zb 512 (fl 64 (fun _ _ => 0))) 26)).alloc (.cells (zb 512 (fl 64 (fun _ _ => 0))) 26)).rowOther (by omega)).rowOther (by omega)), ((((Blk.new W4 512 26 (fl 64 (fun _ _ => 0))).alloc (.cells (zb 512 (fl 64 (fun _ _ => 0))) 26)).row (fl 64 (dvT p m d F G))).rowOther (by omega)), (((show Blk ((W4.alloc (.cells (zb 512 (fl 64 (fun _ _ => 0))) 26)).alloc (.cells (zb 512 (fl 64 (fun _ _ => 0))) 26)) (W4.heap.size + 1) 512 26 (fl 64 (fun _ _ => 0)) by have := Blk.new (W4.alloc (.cells (zb 512 (fl 64 (fun _ _ => 0))) 26)) 512 26 (fl 64 (fun _ _ => 0)); simpa using this).rowOther (by omega)).row (fl 64 (tmP p m d (dvT p m d F G) G))), (zr (zr ((hb.alloc (by have := hb.size; simp; omega) (.cells (zb 512 (fl 64 (fun _ _ => 0))) 26)).alloc (by have := hb.size; simp; omega) (.cells (zb 512 (fl 64 (fun _ _ => 0))) 26)) (by omega) _) (by omega) _)⟩
      rw [← hwo]
      clear hwo B0 B1 B2 B3 B4 B5 hb
      obtain ⟨B0, B1, B2, B3, B4, B5, B6, B7, hb⟩ := hzQ
      obtain ⟨N2, hNN⟩ : ∃ n : Nat, n = W4.heap.size := ⟨_, rfl⟩
      rw [← hNN] at lt_B0 lt_B1 lt_B2 lt_B3 lt_B4 lt_B5 lhb B6 B7 ⊢
      clear hNN
      have zN2_0 := lt_B0
      have zN2_1 := lt_B1
      have zN2_2 := lt_B2
      have zN2_3 := lt_B3
      have zN2_4 := lt_B4
      have zN2_5 := lt_B5
      have zN2 := lhb
      clear lt_B0 lt_B1 lt_B2 lt_B3 lt_B4 lt_B5 lhb
      try simp only [Act.put, pA, pB, pC]
      have lt_B0 := B0.lt
      have lt_B1 := B1.lt
      have lt_B2 := B2.lt
      have lt_B3 := B3.lt
      have lt_B4 := B4.lt
      have lt_B5 := B5.lt
      have lt_B6 := B6.lt
      have lt_B7 := B7.lt
      go_upto_region 5 with (first | rw [← z64] | rw [← zero512] | (refine zla (.tmp 10) B5 Try.underlying26 Try.size26 ?_) | (refine zlr rfl 94 (.tmp 5) rfl _ rfl 94 (fdC (p : Int) m).toArray B1 _ Try.underlying94 rfl 65 Try.size94 (by simp [fdC_len]) ?_) | (refine zla (.tmp 11) B6 Try.underlying26 Try.size26 ?_) | (go_at_call 235; refine (HK2.out _).mono ?_; rintro e W6 ⟨rfl, hW6⟩; replace B0 := B0.zw hW6; replace B1 := B1.zw hW6; replace B2 := B2.zw hW6; replace B3 := B3.zw hW6; replace B4 := B4.zw hW6; replace B5 := B5.zw hW6; replace B6 := B6.zw hW6; replace B7 := B7.zw hW6; replace hb := (hb).trans (hW6.mono (hb).size)) | (refine zsr (.tmp 10) (.tmp 29) (fl 64 (skA p Q (dvT p m d F G) 1)) B5 Try.size26 ?_; try simp only [Act.put]))
      obtain ⟨W7, hwo, hzQ⟩ : ∃ v : World, v = (W6.setRow (N1) (zb 512 (fl 64 (skA p Q (dvT p m d F G) 1)))) ∧ Blk v (w.heap.size) 512 26 (fl 64 F) ∧ Row v (w.heap.size + 1) 94 (fdC (p : Int) m).toArray ∧ Blk v (w.heap.size + 1 + 1) 512 26 (fl 64 G) ∧ Blk v (w.heap.size + 1 + 1 + 1) 512 26 (fl 64 (fun _ _ => 0)) ∧ Blk v (w.heap.size + 1 + 1 + 1 + 1) 512 26 (fl 64 (fun _ _ => 0)) ∧ Blk v (N1) 512 26 (fl 64 (skA p Q (dvT p m d F G) 1)) ∧ Blk v (N2) 512 26 (fl 64 (dvT p m d F G)) ∧ Blk v (N2 + 1) 512 26 (fl 64 (tmP p m d (dvT p m d F G) G)) ∧ Below w.heap.size w v := ⟨_, rfl, (B0.rowOther (by omega)), (B1.rowOther (by omega)), (B2.rowOther (by omega)), (B3.rowOther (by omega)), (B4.rowOther (by omega)), (B5.row (fl 64 (skA p Q (dvT p m d F G) 1))), (B6.rowOther (by omega)), (B7.rowOther (by omega)), (zr hb (by omega) _)⟩
      rw [← hwo]
      clear hwo B0 B1 B2 B3 B4 B5 B6 B7 hb
      obtain ⟨B0, B1, B2, B3, B4, B5, B6, B7, hb⟩ := hzQ
      try simp only [Act.put, pA, pB, pC]
      have lt_B0 := B0.lt
      have lt_B1 := B1.lt
      have lt_B2 := B2.lt
      have lt_B3 := B3.lt
      have lt_B4 := B4.lt
      have lt_B5 := B5.lt
      have lt_B6 := B6.lt
      have lt_B7 := B7.lt
      go_wp2_with (first | rw [← z64] | rw [← zero512] | (refine zla (.tmp 4) B0 Try.underlying26 Try.size26 ?_) | (refine zlr rfl 94 (.tmp 5) rfl _ rfl 94 (fdC (p : Int) m).toArray B1 _ Try.underlying94 rfl 65 Try.size94 (by simp [fdC_len]) ?_) | (refine zla (.tmp 12) B7 Try.underlying26 Try.size26 ?_) | (go_at_call 188; refine (HK3.out _).mono ?_; rintro e W8 ⟨rfl, hW8⟩; replace B0 := B0.zw hW8; replace B1 := B1.zw hW8; replace B2 := B2.zw hW8; replace B3 := B3.zw hW8; replace B4 := B4.zw hW8; replace B5 := B5.zw hW8; replace B6 := B6.zw hW8; replace B7 := B7.zw hW8; replace hb := (hb).trans (hW8.mono (hb).size)) | (refine zsr (.tmp 4) (.tmp 33) (fl 64 (skA p F (tmP p m d (dvT p m d F G) G) (-1))) B0 Try.size26 ?_; try simp only [Act.put]))
      obtain ⟨W9, hwo, hzQ⟩ : ∃ v : World, v = (W8.setRow (w.heap.size) (zb 512 (fl 64 (skA p F (tmP p m d (dvT p m d F G) G) (-1))))) ∧ Blk v (w.heap.size) 512 26 (fl 64 (skA p F (tmP p m d (dvT p m d F G) G) (-1))) ∧ Row v (w.heap.size + 1) 94 (fdC (p : Int) m).toArray ∧ Blk v (w.heap.size + 1 + 1) 512 26 (fl 64 G) ∧ Blk v (w.heap.size + 1 + 1 + 1) 512 26 (fl 64 (fun _ _ => 0)) ∧ Blk v (w.heap.size + 1 + 1 + 1 + 1) 512 26 (fl 64 (fun _ _ => 0)) ∧ Blk v (N1) 512 26 (fl 64 (skA p Q (dvT p m d F G) 1)) ∧ Blk v (N2) 512 26 (fl 64 (dvT p m d F G)) ∧ Blk v (N2 + 1) 512 26 (fl 64 (tmP p m d (dvT p m d F G) G)) ∧ Below w.heap.size w v := ⟨_, rfl, (B0.row (fl 64 (skA p F (tmP p m d (dvT p m d F G) G) (-1)))), (B1.rowOther (by omega)), (B2.rowOther (by omega)), (B3.rowOther (by omega)), (B4.rowOther (by omega)), (B5.rowOther (by omega)), (B6.rowOther (by omega)), (B7.rowOther (by omega)), (zr hb (by omega) _)⟩
      rw [← hwo]
      clear hwo B0 B1 B2 B3 B4 B5 B6 B7 hb
      obtain ⟨B0, B1, B2, B3, B4, B5, B6, B7, hb⟩ := hzQ
      try simp only [Act.put, pA, pB, pC]
      go_roundw
      case rel => exact ⟨fu, _, _, hI2, hb, B0, B1, B2, B3, B4, B5⟩
      case measure => rw [skAt_blk B0, skAt_blk BF0.out]; have h1 := HM.out; have h2 := HG0.out; have h3 : skD (skA p F (tmP p m d (dvT p m d F G) G) (-1)) < skD F := h1; omega
  · have HV := Lib.hid (show (Q, F) = dq p m d F0 G by rw [← hI.out.1, gdR_stop (by omega)])
    go_upto_region 2 with (fail)
    refine zq Try.mixed (by kernel_rfl) (by kernel_rfl) (fun v => by (simp only [frL, Act.put, pA, pB, pC, Nat.reduceAdd, Nat.zero_add]; exact rfl))
     (fun L v W3 => Below wr.heap.size wr W3 ∧ VF L v [some (.agg (zb 512 (fl 64 F))), some (.int .i64 (skD F)), some (.agg (zb 512 (fl 64 G))), some (.int .i64 (skD G)), some (.bool false)]) ?_ ?_ ?_
    · intro v hv0
      exact ⟨(Below.refl _ wr).drew, VF.start⟩
    · refine (.cons rfl ?_ (.cons rfl ?_ (.cons rfl ?_ (.cons rfl ?_ (.cons rfl ?_ (.nil _))))))
      all_goals intro L v W3 hd hn ⟨hY, V⟩ K hK
      · refine zlc (B0.zw hY) Try.underlying26 Try.size26 ?_
        exact hK _ _ _ rfl ⟨hY, V.step 0 rfl⟩
      · have e0 := V.at (zdq hd 0 rfl) rfl
        go_wp2_with (go_at_call 86; refine (skDegree_any F _).mono ?_; rintro e wy ⟨rfl, hy⟩)
        exact hK _ (.int .i64 (skD F)) _ (by simp only [Act.put, pA, pB, pC, e0]) ⟨hY.trans (hy.mono hY.size), V.step 1 rfl⟩
      · refine zlc (B2.zw hY) Try.underlying26 Try.size26 ?_
        exact hK _ _ _ rfl ⟨hY, V.step 2 rfl⟩
      · have e2 := V.at (zdq hd 2 rfl) rfl
        go_wp2_with (go_at_call 86; refine (skDegree_any G _).mono ?_; rintro e wy ⟨rfl, hy⟩)
        exact hK _ (.int .i64 (skD G)) _ (by simp only [Act.put, pA, pB, pC, e2]) ⟨hY.trans (hy.mono hY.size), V.step 3 rfl⟩
      · have e1 := V.at (zdq hd 1 rfl) rfl
        have e3 := V.at (zdq hd 3 rfl) rfl
        go_wp2_with fail
        try rw [show decide (skD G ≤ skD F) = false by simpa using hge]
        exact hK _ (.bool false) _ (by simp only [Act.put, pA, pB, pC, e1, e3]) ⟨hY, V.step 4 rfl⟩
    · intro L v W3 hL ⟨hY, V⟩
      have e0 := V.at (hL 0 (by decide)) rfl
      have e1 := V.at (hL 1 (by decide)) rfl
      have e2 := V.at (hL 2 (by decide)) rfl
      have e3 := V.at (hL 3 (by decide)) rfl
      have e4 := V.at (hL 4 (by decide)) rfl
      clear hL V
      replace B0 := B0.zw hY
      replace B1 := B1.zw hY
      replace B2 := B2.zw hY
      replace B3 := B3.zw hY
      replace B4 := B4.zw hY
      replace B5 := B5.zw hY
      replace hb := hb.trans (hY.mono hb.size)
      clear hY
      simp only [Exit.then, e0, e1, e2, e3, e4]
      clear e0 e1 e2 e3 e4
      go_upto_region 6 with (fail)
      have lt_B0 : (w.heap.size) < W3.heap.size := B0.lt
      have lt_B1 : (w.heap.size + 1) < W3.heap.size := B1.lt
      have lt_B2 : (w.heap.size + 1 + 1) < W3.heap.size := B2.lt
      have lt_B3 : (w.heap.size + 1 + 1 + 1) < W3.heap.size := B3.lt
      have lt_B4 : (w.heap.size + 1 + 1 + 1 + 1) < W3.heap.size := B4.lt
      have lt_B5 : (N1) < W3.heap.size := B5.lt
      have hbase : w.heap.size ≤ W3.heap.size := hb.size
      refine zq Try.mixed (by kernel_rfl) (by kernel_rfl) (fun v => by (simp only [frL, Act.put, pA, pB, pC, Nat.reduceAdd, Nat.zero_add]; exact rfl))
       (fun L v W4 => Below w.heap.size w W4 ∧ Kx [w.heap.size + 1 + 1 + 1, w.heap.size + 1 + 1 + 1 + 1] W3 W4 ∧ (∃ g, Blk W4 (w.heap.size + 1 + 1 + 1) 512 26 (g)) ∧ (L 2 = false → Blk W4 (w.heap.size + 1 + 1 + 1) 512 26 (fl 64 (fun _ _ => 0))) ∧ (L 2 = true → Blk W4 (w.heap.size + 1 + 1 + 1) 512 26 (fl 64 Q)) ∧ (∃ g, Blk W4 (w.heap.size + 1 + 1 + 1 + 1) 512 26 (g)) ∧ (L 3 = false → Blk W4 (w.heap.size + 1 + 1 + 1 + 1) 512 26 (fl 64 (fun _ _ => 0))) ∧ (L 3 = true → Blk W4 (w.heap.size + 1 + 1 + 1 + 1) 512 26 (fl 64 F)) ∧ VF L v [some (.agg (zb 512 (fl 64 Q))), some (.agg (zb 512 (fl 64 F))), none, none]) ?_ ?_ ?_
      · intro v hv0
        exact ⟨hb.drew, Kx.start _ _, ⟨_, B3.drew⟩, (fun _ => B3.drew), (fun h => by cases h), ⟨_, B4.drew⟩, (fun _ => B4.drew), (fun h => by cases h), VF.start⟩
      · refine (.cons rfl ?_ (.cons rfl ?_ (.cons rfl ?_ (.cons rfl ?_ (.nil _)))))
        all_goals intro L v W4 hd hn ⟨hB, hX, x3, q3, n3, x4, q4, n4, V⟩ K hK
        · refine wp_load_any 26 _ rfl _ rfl 512 26 _ (B5.kx hX (by simp <;> omega)) _ Try.underlying26 rfl Try.size26 ?_
          exact hK _ _ _ rfl ⟨hB, hX, x3, q3, n3, x4, q4, n4, V.step 0 rfl⟩
        · refine wp_load_any 26 _ rfl _ rfl 512 26 _ (B0.kx hX (by simp <;> omega)) _ Try.underlying26 rfl Try.size26 ?_
          exact hK _ _ _ rfl ⟨hB, hX, x3, q3, n3, x4, q4, n4, V.step 1 rfl⟩
        · have e0 := V.at (zdq hd 0 rfl) rfl
          obtain ⟨gz, hk⟩ := x3
          refine zsb 26 _ _ rfl _ 512 (fl 64 Q) rfl e0 26 gz hk Try.size26 ?_
          exact hK _ undef _ rfl ⟨zr hB (by omega) _, hX.row (by simp) _, ⟨_, hk.row _⟩, (fun h => absurd h (by simp [setL])), (fun _ => hk.row _), (let ⟨g, h⟩ := x4; ⟨g, (h).rowOther (by omega)⟩), (fun h => (q4 h).rowOther (by omega)), (fun h => (n4 h).rowOther (by omega)), V.skip 2 rfl⟩
        · have e1 := V.at (zdq hd 1 rfl) rfl
          obtain ⟨gz, hk⟩ := x4
          refine zsb 26 _ _ rfl _ 512 (fl 64 F) rfl e1 26 gz hk Try.size26 ?_
          exact hK _ undef _ rfl ⟨zr hB (by omega) _, hX.row (by simp) _, (let ⟨g, h⟩ := x3; ⟨g, (h).rowOther (by omega)⟩), (fun h => (q3 h).rowOther (by omega)), (fun h => (n3 h).rowOther (by omega)), ⟨_, hk.row _⟩, (fun h => absurd h (by simp [setL])), (fun _ => hk.row _), V.skip 3 rfl⟩
      · intro L v W4 hL ⟨hB, hX, x3, q3, n3, x4, q4, n4, V⟩
        have r3 := n3 (hL 2 (by decide))
        have r4 := n4 (hL 3 (by decide))
        have e0 := V.at (hL 0 (by decide)) rfl
        have e1 := V.at (hL 1 (by decide)) rfl
        clear hL x3 q3 n3 x4 q4 n4 V
        replace B0 := B0.kx hX (by simp <;> omega)
        replace B1 := B1.kx hX (by simp <;> omega)
        replace B2 := B2.kx hX (by simp <;> omega)
        replace B5 := B5.kx hX (by simp <;> omega)
        clear hX
        simp only [Exit.then, e0, e1]
        clear e0 e1
        replace B3 := r3
        clear r3
        replace B4 := r4
        clear r4
        replace hb := hB
        clear hB
        clear hbase lt_B0 lt_B1 lt_B2 lt_B3 lt_B4 lt_B5
        go_wp2_with fail
        refine bodyPost_ret (results_any2 rfl _ _ _ 512 _ _ _ 512 _ _ rfl B3 _ Try.underlying26 rfl Try.size26 rfl B4 _ Try.underlying26 rfl Try.size26) rfl ⟨by rw [← HV.out], hb⟩
end Go.Proofs.Ytdlojnmggogbaaa
end
section
namespace Go.Proofs.Ytdlojnmggogbaaa
open Go.RowKit
set_option linter.unusedVariables false
set_option linter.unusedSimpArgs false
attribute [local irreducible] deg invN dS qS stp stpr quoP resP oneP upP upF hmR mmP shA addK bzD bzU bzW
/-- the rest of a product by the rest of a factor -/
theorem mmP_rest {p d : Nat} {a b m : Nat → Nat} (hp : p = 2 ∨ p = 3 ∨ p = 5 ∨ p = 7) (hb : ∀ k, k < 64 → b k < p) (hm : ∀ k, k < 64 → m k < p) (hmon : mon m d) : ∀ k, k < 64 → mmP p a (resP p b m) m k = mmP p a b m k := by
 have p0 : 0 < p := by omega
 have h0 : 0 ≤ deg m := by rw [hmon.1]; omega
 refine res_same (fun k hk => mmP_lt p0 k (by omega)) (fun k hk => mmP_lt p0 k (by omega)) hmon (by rw [← hmon.1]; exact mmP_deg hp hm h0) (by rw [← hmon.1]; exact mmP_deg hp hm h0) ?_
 refine rm_trans (rm_symm (mmP_rm hp hm h0)) (rm_trans ?_ (mmP_rm hp hm h0))
 exact rm_mz2 (fin_lz _) (fin_lz _) (rm_refl _ _ _) (rm_symm (res_rm hp hb hm h0))
end Go.Proofs.Ytdlojnmggogbaaa
end
section
namespace Go.Proofs.Ytdlojnmggogbaaa
open Go Go.RowKit
set_option linter.unusedVariables false
set_option linter.unusedSimpArgs false
attribute [local irreducible] deg addK strP frI frN mmP pmP resP bzU bzD bzW skA skD
set_option maxRecDepth 100000 in
set_option maxHeartbeats 1600000 in
theorem l03Inverse_any (p : Nat) (m y : Nat → Nat) (w : World) (hpr : p = 2 ∨ p = 3 ∨ p = 5 ∨ p = 7) (lm : ∀ k, k < 64 → m k < p) (h0 : 0 ≤ deg m) (ly : ∀ k, k < 64 → y k < p) :
 Calls Try.prog 181 #[.int .i64 (p : Int), .agg (zb 64 y), .agg (zb 64 m)] w fun e w' => e = .returned (.agg (zb 64 (resP p (bzU p y m) m))) ∧ Below w.heap.size w w' := by
 have HB := Lib.hid (fun W => l01Bezout_any p y m W hpr ly lm (.inr h0))
 have HP := Lib.hid (fun W => l01Mod_any p (bzU p y m) m W hpr (fun k _ => bzU_lt (by omega) k) lm h0)
 clear h0 ly lm
 go_enter Try.func181, Try.ntmps181
 go_upto_region 1 with (fail)
 rw [← z64]
 obtain ⟨W1, hwo⟩ : ∃ v : World, v = (((w.alloc (.cells (zb 64 (y)) 24)).alloc (.cells (zb 64 (m)) 24)).alloc (.cells (zb 64 (fun _ => 0)) 24)) := ⟨_, rfl⟩
 have B0 : Blk W1 (w.heap.size) 64 24 (y) := by subst hwo; have := (((Blk.new w 64 24 (y)).alloc (.cells (zb 64 (m)) 24)).alloc (.cells (zb 64 (fun _ => 0)) 24)); simpa using this
 have B1 : Blk W1 (w.heap.size + 1) 64 24 (m) := by subst hwo; have := ((Blk.new (w.alloc (.cells (zb 64 (y)) 24)) 64 24 (m)).alloc (.cells (zb 64 (fun _ => 0)) 24)); simpa using this
 have B2 : Blk W1 (w.heap.size + 1 + 1) 64 24 (fun _ => 0) := by subst hwo; have := (Blk.new ((w.alloc (.cells (zb 64 (y)) 24)).alloc (.cells (zb 64 (m)) 24)) 64 24 (fun _ => 0)); simpa using this
 have hb : Below w.heap.size w W1 := by subst hwo; exact ((((Below.refl _ _).alloc (Nat.le_refl _) _).alloc (by simp) _).alloc (by simp; omega) _)
 rw [← hwo]
 clear hwo
 have lt_B0 := B0.lt
 have lt_B1 := B1.lt
 have lt_B2 := B2.lt
 go_upto_region 2 with (first | rw [← z64] | (refine zla (.tmp 4) B0 Try.underlying24 Try.size24 ?_) | (refine zla (.tmp 5) B1 Try.underlying24 Try.size24 ?_) | (go_at_call 234; refine (HB.out _).mono ?_; rintro e W2 ⟨rfl, hW2⟩; replace B0 := B0.zw hW2; replace B1 := B1.zw hW2; replace B2 := B2.zw hW2; replace hb := (hb).trans (hW2.mono (hb).size)) | (refine wpList_store_blk rfl 24 (.tmp 7) (.tmp 15) rfl _ 64 (bzD p y m) rfl rfl 24 _ ((((Blk.new W2 64 24 (fun _ => 0)).alloc (.cells (zb 64 (fun _ => 0)) 24)).alloc (.cells (zb 64 (fun _ => 0)) 24))) Try.size24 ?_; try simp only [Act.put]) | (refine wpList_store_blk rfl 24 (.tmp 8) (.tmp 16) rfl _ 64 (bzU p y m) rfl rfl 24 _ ((((show Blk ((W2.alloc (.cells (zb 64 (fun _ => 0)) 24)).alloc (.cells (zb 64 (fun _ => 0)) 24)) (W2.heap.size + 1) 64 24 (fun _ => 0) by have := Blk.new (W2.alloc (.cells (zb 64 (fun _ => 0)) 24)) 64 24 (fun _ => 0); simpa using this).alloc (.cells (zb 64 (fun _ => 0)) 24)).rowOther (by omega))) Try.size24 ?_; try simp only [Act.put]) | (refine wpList_store_blk rfl 24 (.tmp 9) (.tmp 17) rfl _ 64 (bzW p y m) rfl rfl 24 _ ((((show Blk (((W2.alloc (.cells (zb 64 (fun _ => 0)) 24)).alloc (.cells (zb 64 (fun _ => 0)) 24)).alloc (.cells (zb 64 (fun _ => 0)) 24)) (W2.heap.size + 1 + 1) 64 24 (fun _ => 0) by have := Blk.new ((W2.alloc (.cells (zb 64 (fun _ => 0)) 24)).alloc (.cells (zb 64 (fun _ => 0)) 24)) 64 24 (fun _ => 0); simpa using this).rowOther (by omega)).rowOther (by omega))) Try.size24 ?_; try simp only [Act.put]))
 have lt_B0 := B0.lt
 have lt_B1 := B1.lt
 have lt_B2 := B2.lt
 have lhb := hb.size
 obtain ⟨W3, hwo, hzQ⟩ : ∃ v : World, v = ((((((W2.alloc (.cells (zb 64 (fun _ => 0)) 24)).alloc (.cells (zb 64 (fun _ => 0)) 24)).alloc (.cells (zb 64 (fun _ => 0)) 24)).setRow (W2.heap.size) (zb 64 (bzD p y m))).setRow (W2.heap.size + 1) (zb 64 (bzU p y m))).setRow (W2.heap.size + 1 + 1) (zb 64 (bzW p y m))) ∧ Blk v (w.heap.size) 64 24 (y) ∧ Blk v (w.heap.size + 1) 64 24 (m) ∧ Blk v (w.heap.size + 1 + 1) 64 24 (fun _ => 0) ∧ Blk v (W2.heap.size) 64 24 (bzD p y m) ∧ Blk v (W2.heap.size + 1) 64 24 (bzU p y m) ∧ Blk v (W2.heap.size + 1 + 1) 64 24 (bzW p y m) ∧ Below w.heap.size w v := ⟨_, rfl, ((((((B0.alloc (.cells (zb 64 (fun _ => 0)) 24)).alloc (.cells (zb 64 (fun _ => 0)) 24)).alloc (.cells (zb 64 (fun _ => 0)) 24)).rowOther (by omega)).rowOther (by omega)).rowOther (by omega)), ((((((B1.alloc (.cells (zb 64 (fun _ => 0)) 24)).alloc (.cells (zb 64 (fun _ => 0)) 24)).alloc (.cells (zb 64 (fun _ => 0)) 24)).rowOther (by omega)).rowOther (by omega)).rowOther (by omega)), ((((((B2.alloc (.cells (zb 64 (fun _ => 0)) 24)).alloc (.cells (zb 64 (fun _ => 0)) 24)).alloc (.cells (zb 64 (fun _ => 0)) 24)).rowOther (by omega)).rowOther (by omega)).rowOther (by omega)), ((((((Blk.new W2 64 24 (fun _ => 0)).alloc (.cells (zb 64 (fun _ => 0)) 24)).alloc (.cells (zb 64 (fun _ => 0)) 24)).row (bzD p y m)).rowOther (by omega)).rowOther (by omega)), (((((show Blk ((W2.alloc (.cells (zb 64 (fun _ => 0)) 24)).alloc (.cells (zb 64 (fun _ => 0)) 24)) (W2.heap.size + 1) 64 24 (fun _ => 0) by have := Blk.new (W2.alloc (.cells (zb 64 (fun _ => 0)) 24)) 64 24 (fun _ => 0); simpa using this).alloc (.cells (zb 64 (fun _ => 0)) 24)).rowOther (by omega)).row (bzU p y m)).rowOther (by omega)), ((((show Blk (((W2.alloc (.cells (zb 64 (fun _ => 0)) 24)).alloc (.cells (zb 64 (fun _ => 0)) 24)).alloc (.cells (zb 64 (fun _ => 0)) 24)) (W2.heap.size + 1 + 1) 64 24 (fun _ => 0) by have := Blk.new ((W2.alloc (.cells (zb 64 (fun _ => 0)) 24)).alloc (.cells (zb 64 (fun _ => 0)) 24)) 64 24 (fun _ => 0); simpa using this).rowOther (by omega)).rowOther (by omega)).row (bzW p y m)), (zr (zr (zr (((hb.alloc (by have := hb.size; simp; omega) (.cells (zb 64 (fun _ => 0)) 24)).alloc (by have := hb.size; simp; omega) (.cells (zb 64 (fun _ => 0)) 24)).alloc (by have := hb.size; simp; omega) (.cells (zb 64 (fun _ => 0)) 24)) (by omega) _) (by omega) _) (by omega) _)⟩
 rw [← hwo]
 clear hwo B0 B1 B2 hb
 obtain ⟨B0, B1, B2, B3, B4, B5, hb⟩ := hzQ
 obtain ⟨N1, hNN⟩ : ∃ n : Nat, n = W2.heap.size := ⟨_, rfl⟩
 rw [← hNN] at lt_B0 lt_B1 lt_B2 lhb B3 B4 B5 ⊢
 clear hNN
 have zN1_0 := lt_B0
 have zN1_1 := lt_B1
 have zN1_2 := lt_B2
 have zN1 := lhb
 clear lt_B0 lt_B1 lt_B2 lhb
 try simp only [Act.put, pA, pB, pC]
 have lt_B0 := B0.lt
 have lt_B1 := B1.lt
 have lt_B2 := B2.lt
 have lt_B3 := B3.lt
 have lt_B4 := B4.lt
 have lt_B5 := B5.lt
 go_wp2_with (first | rw [← z64] | (refine zla (.tmp 8) B4 Try.underlying24 Try.size24 ?_) | (refine zla (.tmp 5) B1 Try.underlying24 Try.size24 ?_) | (go_at_call 173; refine (HP.out _).mono ?_; rintro e W4 ⟨rfl, hW4⟩; replace B0 := B0.zw hW4; replace B1 := B1.zw hW4; replace B2 := B2.zw hW4; replace B3 := B3.zw hW4; replace B4 := B4.zw hW4; replace B5 := B5.zw hW4; replace hb := (hb).trans (hW4.mono (hb).size)) | (refine zsr (.tmp 6) (.tmp 21) (resP p (bzU p y m) m) B2 Try.size24 ?_; try simp only [Act.put]))
 obtain ⟨W5, hwo, hzQ⟩ : ∃ v : World, v = (W4.setRow (w.heap.size + 1 + 1) (zb 64 (resP p (bzU p y m) m))) ∧ Blk v (w.heap.size) 64 24 (y) ∧ Blk v (w.heap.size + 1) 64 24 (m) ∧ Blk v (w.heap.size + 1 + 1) 64 24 (resP p (bzU p y m) m) ∧ Blk v (N1) 64 24 (bzD p y m) ∧ Blk v (N1 + 1) 64 24 (bzU p y m) ∧ Blk v (N1 + 1 + 1) 64 24 (bzW p y m) ∧ Below w.heap.size w v := ⟨_, rfl, (B0.rowOther (by omega)), (B1.rowOther (by omega)), (B2.row (resP p (bzU p y m) m)), (B3.rowOther (by omega)), (B4.rowOther (by omega)), (B5.rowOther (by omega)), (zr hb (by omega) _)⟩
 rw [← hwo]
 clear hwo B0 B1 B2 B3 B4 B5 hb
 obtain ⟨B0, B1, B2, B3, B4, B5, hb⟩ := hzQ
 try simp only [Act.put, pA, pB, pC]
 refine bodyPost_ret (zrb rfl _ _ _ 64 24 5 _ rfl B2 Try.underlying24 Try.size24) rfl ⟨rfl, hb⟩
set_option maxRecDepth 100000 in
set_option maxHeartbeats 1600000 in
theorem l03Term_any (a : Nat → Nat) (q : Nat) (q8 : q < 8) (w : World) :
 Calls Try.prog 182 #[.agg (zb 64 a), .int .i64 (q : Int)] w fun e w' => e = .returned (.agg (zb 512 (fl 64 (updR (fun _ _ => 0) q a)))) ∧ Below w.heap.size w w' := by
 go_enter Try.func182, Try.ntmps182
 go_upto_region 1 with (fail)
 rw [← zero512]
 obtain ⟨W1, hwo⟩ : ∃ v : World, v = ((w.alloc (.cells (zb 64 (a)) 24)).alloc (.cells (zb 512 (fl 64 (fun _ _ => 0))) 26)) := ⟨_, rfl⟩
 have B0 : Blk W1 (w.heap.size) 64 24 (a) := by subst hwo; have := ((Blk.new w 64 24 (a)).alloc (.cells (zb 512 (fl 64 (fun _ _ => 0))) 26)); simpa using this
 have B1 : Blk W1 (w.heap.size + 1) 512 26 (fl 64 (fun _ _ => 0)) := by subst hwo; have := (Blk.new (w.alloc (.cells (zb 64 (a)) 24)) 512 26 (fl 64 (fun _ _ => 0))); simpa using this
 have hb : Below w.heap.size w W1 := by subst hwo; exact (((Below.refl _ _).alloc (Nat.le_refl _) _).alloc (by simp) _)
 rw [← hwo]
 clear hwo
 have lt_B0 := B0.lt
 have lt_B1 := B1.lt
 go_upto_region 2 with (first | rw [← z64] | rw [← zero512] | (refine wpList_store_blk rfl 26 (.tmp 5) (.tmp 6) rfl _ 512 (fl 64 (fun _ _ => 0)) rfl rfl 26 _ ((Blk.new W1 512 26 (fl 64 (fun _ _ => 0)))) Try.size26 ?_; try simp only [Act.put]))
 have lt_B0 := B0.lt
 have lt_B1 := B1.lt
 have lhb := hb.size
 obtain ⟨W2, hwo, hzQ⟩ : ∃ v : World, v = ((W1.alloc (.cells (zb 512 (fl 64 (fun _ _ => 0))) 26)).setRow (W1.heap.size) (zb 512 (fl 64 (fun _ _ => 0)))) ∧ Blk v (w.heap.size) 64 24 (a) ∧ Blk v (w.heap.size + 1) 512 26 (fl 64 (fun _ _ => 0)) ∧ Blk v (W1.heap.size) 512 26 (fl 64 (fun _ _ => 0)) ∧ Below w.heap.size w v := ⟨_, rfl, ((B0.alloc (.cells (zb 512 (fl 64 (fun _ _ => 0))) 26)).rowOther (by omega)), ((B1.alloc (.cells (zb 512 (fl 64 (fun _ _ => 0))) 26)).rowOther (by omega)), ((Blk.new W1 512 26 (fl 64 (fun _ _ => 0))).row (fl 64 (fun _ _ => 0))), (zr (hb.alloc (by have := hb.size; simp; omega) (.cells (zb 512 (fl 64 (fun _ _ => 0))) 26)) (by omega) _)⟩
 rw [← hwo]
 clear hwo B0 B1 hb
 obtain ⟨B0, B1, B2, hb⟩ := hzQ
 obtain ⟨N1, hNN⟩ : ∃ n : Nat, n = W1.heap.size := ⟨_, rfl⟩
 rw [← hNN] at lt_B0 lt_B1 lhb B2 ⊢
 clear hNN
 have zN1_0 := lt_B0
 have zN1_1 := lt_B1
 have zN1 := lhb
 clear lt_B0 lt_B1 lhb
 try simp only [Act.put, pA, pB, pC]
 have lt_B0 := B0.lt
 have lt_B1 := B1.lt
 have lt_B2 := B2.lt
 go_upto_region 3 with (first | rw [← z64] | (refine zla (.tmp 2) B0 Try.underlying24 Try.size24 ?_) | (refine zss rfl 24 (.tmp 9) (.tmp 8) rfl _ (q) (a) rfl rfl 26 _ (B2) (by omega) Try.size24 ?_; try simp only [Act.put]))
 obtain ⟨W3, hwo, hzQ⟩ : ∃ v : World, v = (W2.setRow (N1) (zb 512 (fl 64 (updR (fun _ _ => 0) q (a))))) ∧ Blk v (w.heap.size) 64 24 (a) ∧ Blk v (w.heap.size + 1) 512 26 (fl 64 (fun _ _ => 0)) ∧ Blk v (N1) 512 26 (fl 64 (updR (fun _ _ => 0) q (a))) ∧ Below w.heap.size w v := ⟨_, rfl, (B0.rowOther (by omega)), (B1.rowOther (by omega)), (B2.row (fl 64 (updR (fun _ _ => 0) q (a)))), (zr hb (by omega) _)⟩
 rw [← hwo]
 clear hwo B0 B1 B2 hb
 obtain ⟨B0, B1, B2, hb⟩ := hzQ
 try simp only [Act.put, pA, pB, pC]
 have lt_B0 := B0.lt
 have lt_B1 := B1.lt
 have lt_B2 := B2.lt
 go_wp2_with (first | rw [← z64] | rw [← zero512] | (refine zla (.tmp 5) B2 Try.underlying26 Try.size26 ?_) | (refine zsr (.tmp 4) (.tmp 10) (fl 64 (updR (fun _ _ => 0) q (a))) B1 Try.size26 ?_; try simp only [Act.put]))
 obtain ⟨W4, hwo, hzQ⟩ : ∃ v : World, v = (W3.setRow (w.heap.size + 1) (zb 512 (fl 64 (updR (fun _ _ => 0) q (a))))) ∧ Blk v (w.heap.size) 64 24 (a) ∧ Blk v (w.heap.size + 1) 512 26 (fl 64 (updR (fun _ _ => 0) q (a))) ∧ Blk v (N1) 512 26 (fl 64 (updR (fun _ _ => 0) q (a))) ∧ Below w.heap.size w v := ⟨_, rfl, (B0.rowOther (by omega)), (B1.row (fl 64 (updR (fun _ _ => 0) q (a)))), (B2.rowOther (by omega)), (zr hb (by omega) _)⟩
 rw [← hwo]
 clear hwo B0 B1 B2 hb
 obtain ⟨B0, B1, B2, hb⟩ := hzQ
 try simp only [Act.put, pA, pB, pC]
 refine bodyPost_ret (results_any rfl _ _ _ 512 _ _ rfl B1 _ Try.underlying26 rfl Try.size26) rfl ⟨rfl, hb⟩
set_option maxRecDepth 100000 in
set_option maxHeartbeats 1600000 in
theorem l03Right_any (p : Nat) (m : Nat → Nat) (F0 G : Nat → Nat → Nat) (w : World) (hpr : p = 2 ∨ p = 3 ∨ p = 5 ∨ p = 7) (lm : ∀ k, k < 64 → m k < p) (d : Nat) (hmon : mon m d) (hi : irr p (cut m) d) (hd9 : d ≤ 9) (hF : rsk p m F0) (hG : rsk p m G) (hG0 : 0 ≤ skD G) :
 Calls Try.prog 89 #[.int .i64 (p : Int), .agg (zb 64 m), .agg (zb 512 (fl 64 F0)), .agg (zb 512 (fl 64 G))] w fun e w' => e = .returned (.tuple #[.agg (zb 512 (fl 64 (dq p m d F0 G).1)), .agg (zb 512 (fl 64 (dq p m d F0 G).2))]) ∧ Below w.heap.size w w' := by
 have p0 : 0 < p := by omega
 have hd := hmon.1
 have hd1 := hi.1
 have h0 : 0 ≤ deg m := by omega
 have h9 : deg m ≤ 9 := by omega
 have p2 : 2 ≤ p := by omega
 have p7 : p ≤ 7 := by omega
 have HI0 := Lib.hid (show skD F0 < ((8 : Nat) : Int) ∧ rsk p m F0 from ⟨by have := zsd F0; omega, hF⟩)
 have HE := Lib.hid (show zb 512 (fl 64 (gdU (fun F => dvA p m d F G) (fun F => dvF p m d F G) (skD G) 8 (fun _ _ => 0) F0).1) = zb 512 (fl 64 (dq p m d F0 G).1) ∧ (gdU (fun F => dvA p m d F G) (fun F => dvF p m d F G) (skD G) 8 (fun _ _ => 0) F0).2 = (dq p m d F0 G).2 from by
  obtain ⟨a, b⟩ := gdU_eq p0 h0 (GD_right hpr lm hmon hi hd9 hG hG0) 8 (fun _ _ => 0) (fun _ _ => 0) F0 (fun _ _ => zero_rsd p0 h0) hF (fun _ _ _ _ => rfl) (fun _ _ _ _ _ => rfl)
  unfold dq
  exact ⟨zbc (n := 512) (fl_congr (n := 8) (c := 64) (by decide) b), a⟩)
 obtain ⟨k, hk⟩ : ∃ k : Nat, skD G = (k : Int) := ⟨(skD G).toNat, by omega⟩
 obtain ⟨k8, gk⟩ := skN_row hk
 have HS := Lib.hid (fun (F : Nat → Nat → Nat) (hF : rsk p m F) (h : skD G ≤ skD F) => dv_step hpr lm hmon hi hd9 hF hG hG0 h)
 have HIV := Lib.hid (fun (y : Nat → Nat) (hy : rsd p m y) W => l03Inverse_any p m y W hpr lm h0 hy.1)
 have HFR := Lib.hid (fun q (hq : q ≤ 1000) W => l03Frobenius_any p m (G k) q W hpr lm d hd hd1 hd9 hq (hG k k8))
 have HRF := Lib.hid (fun q => (frN_ok hpr lm h0 h9 (hG k k8) q).1)
 have HMM := Lib.hid (show ∀ (F : Nat → Nat → Nat) (n q : Nat), rsk p m F → skD F = (n : Int) → n - k = q → ∀ W, Calls Try.prog 174 #[.int .i64 (p : Int), .agg (zb 64 (F n)), .agg (zb 64 (resP p (bzU p (frN p m (G k) (q % d)) m) m)), .agg (zb 64 m)] W fun e w' => e = .returned (.agg (zb 64 (dvA p m d F G))) ∧ Below W.heap.size W w' from fun F n q hF hn hq W => by
  have hu : ∀ k, k < 64 → bzU p (frN p m (G k) (q % d)) m k < p := fun k _ => bzU_lt p0 k
  have h := l01MulMod_any p (F n) (resP p (bzU p (frN p m (G k) (q % d)) m) m) m W hpr (hF n (skN_row hn).1).1 (resP_lt p0 (fun k _ => bzU_lt p0 k)) lm h0
  rw [zbc (mmP_rest (a := F n) hpr (fun k _ => bzU_lt p0 k) lm hmon)] at h
  unfold dvA
  rw [hn, hk, show (n : Int).toNat - (k : Int).toNat = q by omega]
  exact h)
 have HTE := Lib.hid (show ∀ (F : Nat → Nat → Nat) (n q : Nat), skD F = (n : Int) → n - k = q → q < 8 → ∀ W, Calls Try.prog 182 #[.agg (zb 64 (dvA p m d F G)), .int .i64 (q : Int)] W fun e w' => e = .returned (.agg (zb 512 (fl 64 (dvT p m d F G)))) ∧ Below W.heap.size W w' from fun F n q hn hq q8 W => by
  have h := l03Term_any (dvA p m d F G) q q8 W
  unfold dvT sng
  rw [hn, hk, show (n : Int).toNat - (k : Int).toNat = q by omega]
  exact h)
 have HTI := Lib.hid (fun (T : Nat → Nat → Nat) (hT : rsk p m T) (h : skD T + skD G ≤ 7) W => l03Times_ok p m T G W hpr lm d hd hd1 hd9 (fun i hi8 => (hT i hi8).1) hG (by omega))
 have HAD := Lib.hid (fun (Q T : Nat → Nat → Nat) (hQ : rsk p m Q) (hT : rsk p m T) W => l03Add_any p Q T (-1) W p2 p7 (by omega) (by omega) (fun i hi8 => (hQ i hi8).1) (fun i hi8 => (hT i hi8).1))
 have HP := Lib.hid (fun (F G : Nat → Nat → Nat) => show rsk p m (tmP p m d F G) from fun i _ => tmP_rsd hpr lm h0 i)
 have HRG := Lib.hid (hG k k8)
 have HGD := Lib.hid (show ∀ W, Calls Try.prog 80 #[.agg (zb 512 (fl 64 G))] W fun e w' => e = .returned (.int .i64 (k : Int)) ∧ Below W.heap.size W w' from fun W => by have := l03Deg_any G W; rwa [hk] at this)
 have HK := Lib.hid hk
 clear hF hG hd hd1 h0 h9 hmon hi lm hpr hG0 gk hk
 go_enter Try.func89, Try.ntmps89
 go_upto_region 1 with (fail)
 rw [← zero512]
 obtain ⟨W1, hwo⟩ : ∃ v : World, v = (((((w.alloc (.cells (zb 64 (m)) 24)).alloc (.cells (zb 512 (fl 64 F0)) 26)).alloc (.cells (zb 512 (fl 64 G)) 26)).alloc (.cells (zb 512 (fl 64 (fun _ _ => 0))) 26)).alloc (.cells (zb 512 (fl 64 (fun _ _ => 0))) 26)) := ⟨_, rfl⟩
 have B0 : Blk W1 (w.heap.size) 64 24 (m) := by subst hwo; have := (((((Blk.new w 64 24 (m)).alloc (.cells (zb 512 (fl 64 F0)) 26)).alloc (.cells (zb 512 (fl 64 G)) 26)).alloc (.cells (zb 512 (fl 64 (fun _ _ => 0))) 26)).alloc (.cells (zb 512 (fl 64 (fun _ _ => 0))) 26)); simpa using this
 have B1 : Blk W1 (w.heap.size + 1) 512 26 (fl 64 F0) := by subst hwo; have := ((((Blk.new (w.alloc (.cells (zb 64 (m)) 24)) 512 26 (fl 64 F0)).alloc (.cells (zb 512 (fl 64 G)) 26)).alloc (.cells (zb 512 (fl 64 (fun _ _ => 0))) 26)).alloc (.cells (zb 512 (fl 64 (fun _ _ => 0))) 26)); simpa using this
 have B2 : Blk W1 (w.heap.size + 1 + 1) 512 26 (fl 64 G) := by subst hwo; have := (((Blk.new ((w.alloc (.cells (zb 64 (m)) 24)).alloc (.cells (zb 512 (fl 64 F0)) 26)) 512 26 (fl 64 G)).alloc (.cells (zb 512 (fl 64 (fun _ _ => 0))) 26)).alloc (.cells (zb 512 (fl 64 (fun _ _ => 0))) 26)); simpa using this
 have B3 : Blk W1 (w.heap.size + 1 + 1 + 1) 512 26 (fl 64 (fun _ _ => 0)) := by subst hwo; have := ((Blk.new (((w.alloc (.cells (zb 64 (m)) 24)).alloc (.cells (zb 512 (fl 64 F0)) 26)).alloc (.cells (zb 512 (fl 64 G)) 26)) 512 26 (fl 64 (fun _ _ => 0))).alloc (.cells (zb 512 (fl 64 (fun _ _ => 0))) 26)); simpa using this
 have B4 : Blk W1 (w.heap.size + 1 + 1 + 1 + 1) 512 26 (fl 64 (fun _ _ => 0)) := by subst hwo; have := (Blk.new ((((w.alloc (.cells (zb 64 (m)) 24)).alloc (.cells (zb 512 (fl 64 F0)) 26)).alloc (.cells (zb 512 (fl 64 G)) 26)).alloc (.cells (zb 512 (fl 64 (fun _ _ => 0))) 26)) 512 26 (fl 64 (fun _ _ => 0))); simpa using this
 have hb : Below w.heap.size w W1 := by subst hwo; exact ((((((Below.refl _ _).alloc (Nat.le_refl _) _).alloc (by simp) _).alloc (by simp; omega) _).alloc (by simp; omega) _).alloc (by simp; omega) _)
 rw [← hwo]
 clear hwo
 have lt_B0 := B0.lt
 have lt_B1 := B1.lt
 have lt_B2 := B2.lt
 have lt_B3 := B3.lt
 have lt_B4 := B4.lt
 go_upto_region 2 with (first | rw [← z64] | rw [← zero512] | (refine zla (.tmp 7) B2 Try.underlying26 Try.size26 ?_) | (go_at_call 80; refine (HGD.out _).mono ?_; rintro e W2 ⟨rfl, hW2⟩; replace B0 := B0.zw hW2; replace B1 := B1.zw hW2; replace B2 := B2.zw hW2; replace B3 := B3.zw hW2; replace B4 := B4.zw hW2; replace hb := (hb).trans (hW2.mono (hb).size)) | (refine wpList_store_blk rfl 26 (.tmp 10) (.tmp 16) rfl _ 512 (fl 64 (fun _ _ => 0)) rfl rfl 26 _ ((Blk.new W2 512 26 (fl 64 (fun _ _ => 0)))) Try.size26 ?_; try simp only [Act.put]; go_upto_region 2 with (fail)))
 have lt_B0 := B0.lt
 have lt_B1 := B1.lt
 have lt_B2 := B2.lt
 have lt_B3 := B3.lt
 have lt_B4 := B4.lt
 have lhb := hb.size
 obtain ⟨W3, hwo, hzQ⟩ : ∃ v : World, v = ((W2.alloc (.cells (zb 512 (fl 64 (fun _ _ => 0))) 26)).setRow (W2.heap.size) (zb 512 (fl 64 (fun _ _ => 0)))) ∧ Blk v (w.heap.size) 64 24 (m) ∧ Blk v (w.heap.size + 1) 512 26 (fl 64 F0) ∧ Blk v (w.heap.size + 1 + 1) 512 26 (fl 64 G) ∧ Blk v (w.heap.size + 1 + 1 + 1) 512 26 (fl 64 (fun _ _ => 0)) ∧ Blk v (w.heap.size + 1 + 1 + 1 + 1) 512 26 (fl 64 (fun _ _ => 0)) ∧ Blk v (W2.heap.size) 512 26 (fl 64 (fun _ _ => 0)) ∧ Below w.heap.size w v := ⟨_, rfl, ((B0.alloc (.cells (zb 512 (fl 64 (fun _ _ => 0))) 26)).rowOther (by omega)), ((B1.alloc (.cells (zb 512 (fl 64 (fun _ _ => 0))) 26)).rowOther (by omega)), ((B2.alloc (.cells (zb 512 (fl 64 (fun _ _ => 0))) 26)).rowOther (by omega)), ((B3.alloc (.cells (zb 512 (fl 64 (fun _ _ => 0))) 26)).rowOther (by omega)), ((B4.alloc (.cells (zb 512 (fl 64 (fun _ _ => 0))) 26)).rowOther (by omega)), ((Blk.new W2 512 26 (fl 64 (fun _ _ => 0))).row (fl 64 (fun _ _ => 0))), (zr (hb.alloc (by have := hb.size; simp; omega) (.cells (zb 512 (fl 64 (fun _ _ => 0))) 26)) (by omega) _)⟩
 rw [← hwo]
 clear hwo B0 B1 B2 B3 B4 hb
 obtain ⟨B0, B1, B2, B3, B4, B5, hb⟩ := hzQ
 obtain ⟨N1, hNN⟩ : ∃ n : Nat, n = W2.heap.size := ⟨_, rfl⟩
 rw [← hNN] at lt_B0 lt_B1 lt_B2 lt_B3 lt_B4 lhb B5 ⊢
 clear hNN
 have zN1_0 := lt_B0
 have zN1_1 := lt_B1
 have zN1_2 := lt_B2
 have zN1_3 := lt_B3
 have zN1_4 := lt_B4
 have zN1 := lhb
 clear lt_B0 lt_B1 lt_B2 lt_B3 lt_B4 lhb
 try simp only [Act.put, pA, pB, pC]
 go_upto_region 99 with (first | (refine zla (.tmp 6) B1 Try.underlying26 Try.size26 ?_) | (go_at_call 80; refine (l03Deg_any F0 _).mono ?_; rintro e W4 ⟨rfl, hW4⟩; replace B0 := B0.zw hW4; replace B1 := B1.zw hW4; replace B2 := B2.zw hW4; replace B3 := B3.zw hW4; replace B4 := B4.zw hW4; replace B5 := B5.zw hW4; replace hb := (hb).trans (hW4.mono (hb).size)))
 go_loopw [12] (fun c wr => ∃ (fu : Nat) (Q F : Nat → Nat → Nat), c = .int .i64 (skD F) ∧ Hid (gdU (fun F => dvA p m d F G) (fun F => dvF p m d F G) (skD G) fu Q F = gdU (fun F => dvA p m d F G) (fun F => dvF p m d F G) (skD G) 8 (fun _ _ => 0) F0 ∧ skD F < (fu : Int) ∧ rsk p m F) ∧ Below w.heap.size w wr ∧ Blk wr (w.heap.size) 64 24 m ∧ Blk wr (w.heap.size + 1) 512 26 (fl 64 F) ∧ Blk wr (w.heap.size + 1 + 1) 512 26 (fl 64 G) ∧ Blk wr (w.heap.size + 1 + 1 + 1) 512 26 (fl 64 (fun _ _ => 0)) ∧ Blk wr (w.heap.size + 1 + 1 + 1 + 1) 512 26 (fl 64 (fun _ _ => 0)) ∧ Blk wr (N1) 512 26 (fl 64 Q)) (fun c _ => (intOf c + 1).toNat)
 case atStart => exact ⟨8, _, _, rfl, Lib.hid ⟨rfl, HI0.out⟩, hb, B0, B1, B2, B3, B4, B5⟩
 case round =>
  clear hb B0 B1 B2 B3 B4 B5 HI0
  obtain ⟨fu, Q, F, rfl, hI, hb, B0, B1, B2, B3, B4, B5⟩ := hrel
  by_cases hge : (k : Int) ≤ skD F
  · obtain ⟨i1, i2, i4⟩ := hI.out
    obtain ⟨s1, s2, s3, s4, s5, s6⟩ := HS.out F i4 (by have := HK.out; omega)
    obtain ⟨fu, rfl⟩ : ∃ x, fu = x + 1 := ⟨fu - 1, by omega⟩
    obtain ⟨n, hn⟩ : ∃ n : Nat, skD F = (n : Int) := ⟨(skD F).toNat, by omega⟩
    obtain ⟨n8, fn⟩ := skN_row hn
    obtain ⟨q, hq⟩ : ∃ q : Nat, n - k = q := ⟨_, rfl⟩
    have q8 : q < 8 := by omega
    have hI2 := Lib.hid (show gdU (fun F => dvA p m d F G) (fun F => dvF p m d F G) (skD G) fu (updR Q q (dvA p m d F G)) (dvF p m d F G) = gdU (fun F => dvA p m d F G) (fun F => dvF p m d F G) (skD G) 8 (fun _ _ => 0) F0 ∧ skD (dvF p m d F G) < (fu : Int) ∧ rsk p m (dvF p m d F G) from ⟨by rw [← i1, gdU_step (by have := HK.out; omega), show (skD F).toNat - (skD G).toNat = q by have := HK.out; omega], by omega, s5⟩)
    have HK1 := Lib.hid (HMM.out F n q i4 hn hq)
    have HK2 := Lib.hid (HTE.out F n q hn hq q8)
    have HK3 := Lib.hid (HTI.out (dvT p m d F G) s4 (by have := HK.out; omega))
    have HK4 := Lib.hid (HAD.out F (tmP p m d (dvT p m d F G) G) i4 (HP.out _ _))
    have HK5 := Lib.hid (HFR.out q (by omega))
    have HK6 := Lib.hid (HIV.out (frN p m (G k) (q % d)) (HRF.out (q % d)))
    have hM := Lib.hid (show skD (dvF p m d F G) < (n : Int) from by omega)
    have HM0 := Lib.hid (show (-1 : Int) ≤ skD (dvF p m d F G) from (zsd _).1)
    rw [hn] at hge ⊢
    have hgeI : (n : Int) ≥ (k : Int) := hge
    have hqI : (n : Int) - (k : Int) = (q : Int) := by omega
    clear i1 i2 i4 s1 s2 s3 s4 s5 s6 hI hn fn hq
    go_upto_region 5 with (fail)
    have lt_B0 : (w.heap.size) < wr.heap.size := B0.lt
    have lt_B1 : (w.heap.size + 1) < wr.heap.size := B1.lt
    have lt_B2 : (w.heap.size + 1 + 1) < wr.heap.size := B2.lt
    have lt_B3 : (w.heap.size + 1 + 1 + 1) < wr.heap.size := B3.lt
    have lt_B4 : (w.heap.size + 1 + 1 + 1 + 1) < wr.heap.size := B4.lt
    have lt_B5 : (N1) < wr.heap.size := B5.lt
    refine zq Try.mixed (by kernel_rfl) (by kernel_rfl) (fun v => by (simp only [frL, Act.put, pA, pB, pC, Nat.reduceAdd, Nat.zero_add]; exact rfl))
     (fun L v W5 => Below wr.heap.size wr W5 ∧ (L 18 = true → AF (v 18) W5 wr.heap.size 64 24) ∧ (L 19 = true → PF (v 18) W5 wr.heap.size 64 24 (dvA p m d F G)) ∧ VF L v [some (.int .i64 (p : Int)), some (.int .i64 (n : Int)), some (.pointer (some ⟨w.heap.size + 1, n * 64, none⟩)), some (.agg (zb 64 (F n))), some (.int .i64 (p : Int)), some (.int .i64 (p : Int)), some (.int .i64 (k : Int)), some (.pointer (some ⟨w.heap.size + 1 + 1, k * 64, none⟩)), some (.agg (zb 64 (G k))), some (.int .i64 (n : Int)), some (.int .i64 (k : Int)), some (.int .i64 (q : Int)), some (.agg (zb 64 (m))), some (.agg (zb 64 (frN p m (G k) (q % d)))), some (.agg (zb 64 (m))), some (.agg (zb 64 (resP p (bzU p (frN p m (G k) (q % d)) m) m))), some (.agg (zb 64 (m))), some (.agg (zb 64 (dvA p m d F G))), none, none]) ?_ ?_ ?_
    · intro v hv0
      exact ⟨(Below.refl _ wr).drew, (fun h => by cases h), (fun h => by cases h), VF.start⟩
    · refine (.cons rfl ?_ (.cons rfl ?_ (.cons rfl ?_ (.cons rfl ?_ (.cons rfl ?_ (.cons rfl ?_ (.cons rfl ?_ (.cons rfl ?_ (.cons rfl ?_ (.cons rfl ?_ (.cons rfl ?_ (.cons rfl ?_ (.cons rfl ?_ (.cons rfl ?_ (.cons rfl ?_ (.cons rfl ?_ (.cons rfl ?_ (.cons rfl ?_ (.cons rfl ?_ (.cons rfl ?_ (.nil _)))))))))))))))))))))
      all_goals intro L v W5 hd hn ⟨hY, h18, h19, V⟩ K hK
      · go_wp2_with fail
        exact hK _ (.int .i64 (p : Int)) _ (by simp only [Act.put, pA, pB, pC ]) ⟨hY, h18, h19, V.step 0 rfl⟩
      · go_wp2_with fail
        exact hK _ (.int .i64 (n : Int)) _ (by simp only [Act.put, pA, pB, pC ]) ⟨hY, h18, h19, V.step 1 rfl⟩
      · have e1 := V.at (zdq hd 1 rfl) rfl
        go_wp2_with fail
        exact hK _ (.pointer (some ⟨w.heap.size + 1, n * 64, none⟩)) _ (by simp only [Act.put, pA, pB, pC, e1]) ⟨hY, h18, h19, V.step 2 rfl⟩
      · have e2 := V.at (zdq hd 2 rfl) rfl
        refine wp_load_mid 24 _ rfl _ (n * 64) e2 _ _ (((B1.zw hY)).sk (by omega)) Try.underlying24 rfl (by rw [zl]; exact Try.size24) ?_
        exact hK _ _ _ rfl ⟨hY, h18, h19, V.step 3 rfl⟩
      · go_wp2_with fail
        exact hK _ (.int .i64 (p : Int)) _ (by simp only [Act.put, pA, pB, pC ]) ⟨hY, h18, h19, V.step 4 rfl⟩
      · go_wp2_with fail
        exact hK _ (.int .i64 (p : Int)) _ (by simp only [Act.put, pA, pB, pC ]) ⟨hY, h18, h19, V.step 5 rfl⟩
      · go_wp2_with fail
        exact hK _ (.int .i64 (k : Int)) _ (by simp only [Act.put, pA, pB, pC ]) ⟨hY, h18, h19, V.step 6 rfl⟩
      · have e6 := V.at (zdq hd 6 rfl) rfl
        go_wp2_with fail
        exact hK _ (.pointer (some ⟨w.heap.size + 1 + 1, k * 64, none⟩)) _ (by simp only [Act.put, pA, pB, pC, e6]) ⟨hY, h18, h19, V.step 7 rfl⟩
      · have e7 := V.at (zdq hd 7 rfl) rfl
        refine wp_load_mid 24 _ rfl _ (k * 64) e7 _ _ (((B2.zw hY)).sk (by omega)) Try.underlying24 rfl (by rw [zl]; exact Try.size24) ?_
        exact hK _ _ _ rfl ⟨hY, h18, h19, V.step 8 rfl⟩
      · go_wp2_with fail
        exact hK _ (.int .i64 (n : Int)) _ (by simp only [Act.put, pA, pB, pC ]) ⟨hY, h18, h19, V.step 9 rfl⟩
      · go_wp2_with fail
        exact hK _ (.int .i64 (k : Int)) _ (by simp only [Act.put, pA, pB, pC ]) ⟨hY, h18, h19, V.step 10 rfl⟩
      · have e9 := V.at (zdq hd 9 rfl) rfl
        have e10 := V.at (zdq hd 10 rfl) rfl
        go_wp2_with fail
        exact hK _ (.int .i64 (q : Int)) _ (by simp only [Act.put, pA, pB, pC, e9, e10]) ⟨hY, h18, h19, V.step 11 rfl⟩
      · refine zlc (B0.zw hY) Try.underlying24 Try.size24 ?_
        exact hK _ _ _ rfl ⟨hY, h18, h19, V.step 12 rfl⟩
      · have e5 := V.at (zdq hd 5 rfl) rfl
        have e8 := V.at (zdq hd 8 rfl) rfl
        have e11 := V.at (zdq hd 11 rfl) rfl
        have e12 := V.at (zdq hd 12 rfl) rfl
        go_wp2_with (go_at_call 175; refine (HK5.out _).mono ?_; rintro e wy ⟨rfl, hy⟩)
        exact hK _ (.agg (zb 64 (frN p m (G k) (q % d)))) _ (by simp only [Act.put, pA, pB, pC, e5, e8, e11, e12]) ⟨hY.trans (hy.mono hY.size), (fun h => (h18 h).below hy), (fun h => (h19 h).below hy), V.step 13 rfl⟩
      · refine zlc (B0.zw hY) Try.underlying24 Try.size24 ?_
        exact hK _ _ _ rfl ⟨hY, h18, h19, V.step 14 rfl⟩
      · have e4 := V.at (zdq hd 4 rfl) rfl
        have e13 := V.at (zdq hd 13 rfl) rfl
        have e14 := V.at (zdq hd 14 rfl) rfl
        go_wp2_with (go_at_call 181; refine (HK6.out _).mono ?_; rintro e wy ⟨rfl, hy⟩)
        exact hK _ (.agg (zb 64 (resP p (bzU p (frN p m (G k) (q % d)) m) m))) _ (by simp only [Act.put, pA, pB, pC, e4, e13, e14]) ⟨hY.trans (hy.mono hY.size), (fun h => (h18 h).below hy), (fun h => (h19 h).below hy), V.step 15 rfl⟩
      · refine zlc (B0.zw hY) Try.underlying24 Try.size24 ?_
        exact hK _ _ _ rfl ⟨hY, h18, h19, V.step 16 rfl⟩
      · have e0 := V.at (zdq hd 0 rfl) rfl
        have e3 := V.at (zdq hd 3 rfl) rfl
        have e15 := V.at (zdq hd 15 rfl) rfl
        have e16 := V.at (zdq hd 16 rfl) rfl
        go_wp2_with (go_at_call 174; refine (HK1.out _).mono ?_; rintro e wy ⟨rfl, hy⟩)
        exact hK _ (.agg (zb 64 (dvA p m d F G))) _ (by simp only [Act.put, pA, pB, pC, e0, e3, e15, e16]) ⟨hY.trans (hy.mono hY.size), (fun h => (h18 h).below hy), (fun h => (h19 h).below hy), V.step 17 rfl⟩
      · go_wp2_with fail
        rw [← z64]
        exact hK _ (.pointer (some ⟨W5.heap.size, 0, none⟩)) _ (by simp only [Act.put, pA, pB, pC ]) ⟨hY.alloc hY.size _, (fun _ => (PF.new W5 64 24 _ hY.size).af), (fun h => absurd rfl (hn 19 _ rfl h ⟨18, .data⟩ (by simp) rfl)), V.skip 18 rfl⟩
      · have e17 := V.at (zdq hd 17 rfl) rfl
        obtain ⟨gz, b, ea, hN, hk⟩ := (h18 (zdq hd 18 rfl)).out
        refine zsb 24 _ _ rfl b 64 (dvA p m d F G) ea e17 24 gz hk Try.size24 ?_
        exact hK _ undef _ rfl ⟨zr hY hN _, (fun h => (h18 h).row hk), (fun _ => by rw [show updV v 19 undef 18 = v 18 from rfl, ea]; exact PF.row hk hN _), V.skip 19 rfl⟩
    · intro L v W5 hL ⟨hY, h18, h19, V⟩
      obtain ⟨k5_18, e18, hNk5_18, hk5_18⟩ := (h19 (hL 19 (by decide))).out
      have e0 := V.at (hL 0 (by decide)) rfl
      have e1 := V.at (hL 1 (by decide)) rfl
      have e2 := V.at (hL 2 (by decide)) rfl
      have e3 := V.at (hL 3 (by decide)) rfl
      have e4 := V.at (hL 4 (by decide)) rfl
      have e5 := V.at (hL 5 (by decide)) rfl
      have e6 := V.at (hL 6 (by decide)) rfl
      have e7 := V.at (hL 7 (by decide)) rfl
      have e8 := V.at (hL 8 (by decide)) rfl
      have e9 := V.at (hL 9 (by decide)) rfl
      have e10 := V.at (hL 10 (by decide)) rfl
      have e11 := V.at (hL 11 (by decide)) rfl
      have e12 := V.at (hL 12 (by decide)) rfl
      have e13 := V.at (hL 13 (by decide)) rfl
      have e14 := V.at (hL 14 (by decide)) rfl
      have e15 := V.at (hL 15 (by decide)) rfl
      have e16 := V.at (hL 16 (by decide)) rfl
      have e17 := V.at (hL 17 (by decide)) rfl
      clear hL h18 h19 V
      replace B0 := B0.zw hY
      replace B1 := B1.zw hY
      replace B2 := B2.zw hY
      replace B3 := B3.zw hY
      replace B4 := B4.zw hY
      replace B5 := B5.zw hY
      replace hb := hb.trans (hY.mono hb.size)
      clear hY
      simp only [Exit.then, e18, e0, e1, e2, e3, e4, e5, e6, e7, e8, e9, e10, e11, e12, e13, e14, e15, e16, e17]
      clear e18 e0 e1 e2 e3 e4 e5 e6 e7 e8 e9 e10 e11 e12 e13 e14 e15 e16 e17
      have B6 := hk5_18
      clear hk5_18
      have zk5_18_0 : w.heap.size < k5_18 := by omega
      have zk5_18_1 : w.heap.size + 1 < k5_18 := by omega
      have zk5_18_2 : w.heap.size + 1 + 1 < k5_18 := by omega
      have zk5_18_3 : w.heap.size + 1 + 1 + 1 < k5_18 := by omega
      have zk5_18_4 : w.heap.size + 1 + 1 + 1 + 1 < k5_18 := by omega
      have zk5_18_5 : N1 < k5_18 := by omega
      clear lt_B0 lt_B1 lt_B2 lt_B3 lt_B4 lt_B5
      go_upto_region 6 with (fail)
      have lt_B0 := B0.lt
      have lt_B1 := B1.lt
      have lt_B2 := B2.lt
      have lt_B3 := B3.lt
      have lt_B4 := B4.lt
      have lt_B5 := B5.lt
      have lt_B6 := B6.lt
      go_upto_region 7 with (first | rw [← z64] | (refine zla (.tmp 13) B6 Try.underlying24 Try.size24 ?_) | (refine zss rfl 24 (.tmp 48) (.tmp 47) rfl _ (q) (dvA p m d F G) rfl rfl 26 _ (B5) (by omega) Try.size24 ?_; try simp only [Act.put]))
      obtain ⟨W6, hwo, hzQ⟩ : ∃ v : World, v = (W5.setRow (N1) (zb 512 (fl 64 (updR Q q (dvA p m d F G))))) ∧ Blk v (w.heap.size) 64 24 (m) ∧ Blk v (w.heap.size + 1) 512 26 (fl 64 F) ∧ Blk v (w.heap.size + 1 + 1) 512 26 (fl 64 G) ∧ Blk v (w.heap.size + 1 + 1 + 1) 512 26 (fl 64 (fun _ _ => 0)) ∧ Blk v (w.heap.size + 1 + 1 + 1 + 1) 512 26 (fl 64 (fun _ _ => 0)) ∧ Blk v (N1) 512 26 (fl 64 (updR Q q (dvA p m d F G))) ∧ Blk v (k5_18) 64 24 (dvA p m d F G) ∧ Below w.heap.size w v := ⟨_, rfl, (B0.rowOther (by omega)), (B1.rowOther (by omega)), (B2.rowOther (by omega)), (B3.rowOther (by omega)), (B4.rowOther (by omega)), (B5.row (fl 64 (updR Q q (dvA p m d F G)))), (B6.rowOther (by omega)), (zr hb (by omega) _)⟩
      rw [← hwo]
      clear hwo B0 B1 B2 B3 B4 B5 B6 hb
      obtain ⟨B0, B1, B2, B3, B4, B5, B6, hb⟩ := hzQ
      try simp only [Act.put, pA, pB, pC]
      have lt_B0 : (w.heap.size) < W6.heap.size := B0.lt
      have lt_B1 : (w.heap.size + 1) < W6.heap.size := B1.lt
      have lt_B2 : (w.heap.size + 1 + 1) < W6.heap.size := B2.lt
      have lt_B3 : (w.heap.size + 1 + 1 + 1) < W6.heap.size := B3.lt
      have lt_B4 : (w.heap.size + 1 + 1 + 1 + 1) < W6.heap.size := B4.lt
      have lt_B5 : (N1) < W6.heap.size := B5.lt
      have lt_B6 : (k5_18) < W6.heap.size := B6.lt
      refine zq Try.mixed (by kernel_rfl) (by kernel_rfl) (fun v => by (simp only [frL, Act.put, pA, pB, pC, Nat.reduceAdd, Nat.zero_add]; exact rfl))
       (fun L v W7 => Below W6.heap.size W6 W7 ∧ (L 12 = true → AF (v 12) W7 W6.heap.size 512 26) ∧ (L 13 = true → PF (v 12) W7 W6.heap.size 512 26 (fl 64 (tmP p m d (dvT p m d F G) G))) ∧ VF L v [some (.int .i64 (p : Int)), some (.agg (zb 64 (m))), some (.agg (zb 64 (dvA p m d F G))), some (.int .i64 (n : Int)), some (.int .i64 (k : Int)), some (.int .i64 (q : Int)), some (.agg (zb 512 (fl 64 (dvT p m d F G)))), some (.agg (zb 512 (fl 64 G))), some (.tuple #[(.agg (zb 512 (fl 64 (tmP p m d (dvT p m d F G) G)))), (.bool true)]), some (.tuple #[(.agg (zb 512 (fl 64 (tmP p m d (dvT p m d F G) G)))), (.bool true)]), some (.agg (zb 512 (fl 64 (tmP p m d (dvT p m d F G) G)))), some (.bool true), none, none, some (.bool true)]) ?_ ?_ ?_
      · intro v hv0
        exact ⟨(Below.refl _ W6).drew, (fun h => by cases h), (fun h => by cases h), VF.start⟩
      · refine (.cons rfl ?_ (.cons rfl ?_ (.cons rfl ?_ (.cons rfl ?_ (.cons rfl ?_ (.cons rfl ?_ (.cons rfl ?_ (.cons rfl ?_ (.cons rfl ?_ (.cons rfl ?_ (.cons rfl ?_ (.cons rfl ?_ (.cons rfl ?_ (.cons rfl ?_ (.cons rfl ?_ (.nil _))))))))))))))))
        all_goals intro L v W7 hd hn ⟨hY, h12, h13, V⟩ K hK
        · go_wp2_with fail
          exact hK _ (.int .i64 (p : Int)) _ (by simp only [Act.put, pA, pB, pC ]) ⟨hY, h12, h13, V.step 0 rfl⟩
        · refine zlc (B0.zw hY) Try.underlying24 Try.size24 ?_
          exact hK _ _ _ rfl ⟨hY, h12, h13, V.step 1 rfl⟩
        · refine zlc (B6.zw hY) Try.underlying24 Try.size24 ?_
          exact hK _ _ _ rfl ⟨hY, h12, h13, V.step 2 rfl⟩
        · go_wp2_with fail
          exact hK _ (.int .i64 (n : Int)) _ (by simp only [Act.put, pA, pB, pC ]) ⟨hY, h12, h13, V.step 3 rfl⟩
        · go_wp2_with fail
          exact hK _ (.int .i64 (k : Int)) _ (by simp only [Act.put, pA, pB, pC ]) ⟨hY, h12, h13, V.step 4 rfl⟩
        · have e3 := V.at (zdq hd 3 rfl) rfl
          have e4 := V.at (zdq hd 4 rfl) rfl
          go_wp2_with fail
          exact hK _ (.int .i64 (q : Int)) _ (by simp only [Act.put, pA, pB, pC, e3, e4]) ⟨hY, h12, h13, V.step 5 rfl⟩
        · have e2 := V.at (zdq hd 2 rfl) rfl
          have e5 := V.at (zdq hd 5 rfl) rfl
          go_wp2_with (go_at_call 182; refine (HK2.out _).mono ?_; rintro e wy ⟨rfl, hy⟩)
          exact hK _ (.agg (zb 512 (fl 64 (dvT p m d F G)))) _ (by simp only [Act.put, pA, pB, pC, e2, e5]) ⟨hY.trans (hy.mono hY.size), (fun h => (h12 h).below hy), (fun h => (h13 h).below hy), V.step 6 rfl⟩
        · refine zlc (B2.zw hY) Try.underlying26 Try.size26 ?_
          exact hK _ _ _ rfl ⟨hY, h12, h13, V.step 7 rfl⟩
        · have e0 := V.at (zdq hd 0 rfl) rfl
          have e1 := V.at (zdq hd 1 rfl) rfl
          have e6 := V.at (zdq hd 6 rfl) rfl
          have e7 := V.at (zdq hd 7 rfl) rfl
          go_wp2_with (go_at_call 84; refine (HK3.out _).mono ?_; rintro e wy ⟨rfl, hy⟩)
          exact hK _ (.tuple #[(.agg (zb 512 (fl 64 (tmP p m d (dvT p m d F G) G)))), (.bool true)]) _ (by simp only [Act.put, pA, pB, pC, e0, e1, e6, e7]) ⟨hY.trans (hy.mono hY.size), (fun h => (h12 h).below hy), (fun h => (h13 h).below hy), V.step 8 rfl⟩
        · have e8 := V.at (zdq hd 8 rfl) rfl
          go_wp2_with fail
          exact hK _ (.tuple #[(.agg (zb 512 (fl 64 (tmP p m d (dvT p m d F G) G)))), (.bool true)]) _ (by simp only [Act.put, pA, pB, pC, e8]) ⟨hY, h12, h13, V.step 9 rfl⟩
        · have e9 := V.at (zdq hd 9 rfl) rfl
          go_wp2_with fail
          exact hK _ (.agg (zb 512 (fl 64 (tmP p m d (dvT p m d F G) G)))) _ (by simp only [Act.put, pA, pB, pC, e9]) ⟨hY, h12, h13, V.step 10 rfl⟩
        · have e9 := V.at (zdq hd 9 rfl) rfl
          go_wp2_with fail
          exact hK _ (.bool true) _ (by simp only [Act.put, pA, pB, pC, e9]) ⟨hY, h12, h13, V.step 11 rfl⟩
        · go_wp2_with fail
          rw [← zero512]
          exact hK _ (.pointer (some ⟨W7.heap.size, 0, none⟩)) _ (by simp only [Act.put, pA, pB, pC ]) ⟨hY.alloc hY.size _, (fun _ => (PF.new W7 512 26 _ hY.size).af), (fun h => absurd rfl (hn 13 _ rfl h ⟨12, .data⟩ (by simp) rfl)), V.skip 12 rfl⟩
        · have e10 := V.at (zdq hd 10 rfl) rfl
          obtain ⟨gz, b, ea, hN, hk⟩ := (h12 (zdq hd 12 rfl)).out
          refine zsb 26 _ _ rfl b 512 (fl 64 (tmP p m d (dvT p m d F G) G)) ea e10 26 gz hk Try.size26 ?_
          exact hK _ undef _ rfl ⟨zr hY hN _, (fun h => (h12 h).row hk), (fun _ => by rw [show updV v 13 undef 12 = v 12 from rfl, ea]; exact PF.row hk hN _), V.skip 13 rfl⟩
        · have e11 := V.at (zdq hd 11 rfl) rfl
          go_wp2_with fail
          exact hK _ (.bool true) _ (by simp only [Act.put, pA, pB, pC, e11]) ⟨hY, h12, h13, V.step 14 rfl⟩
      · intro L v W7 hL ⟨hY, h12, h13, V⟩
        obtain ⟨k7_12, e12, hNk7_12, hk7_12⟩ := (h13 (hL 13 (by decide))).out
        have e0 := V.at (hL 0 (by decide)) rfl
        have e1 := V.at (hL 1 (by decide)) rfl
        have e2 := V.at (hL 2 (by decide)) rfl
        have e3 := V.at (hL 3 (by decide)) rfl
        have e4 := V.at (hL 4 (by decide)) rfl
        have e5 := V.at (hL 5 (by decide)) rfl
        have e6 := V.at (hL 6 (by decide)) rfl
        have e7 := V.at (hL 7 (by decide)) rfl
        have e8 := V.at (hL 8 (by decide)) rfl
        have e9 := V.at (hL 9 (by decide)) rfl
        have e10 := V.at (hL 10 (by decide)) rfl
        have e11 := V.at (hL 11 (by decide)) rfl
        have e14 := V.at (hL 14 (by decide)) rfl
        clear hL h12 h13 V
        replace B0 := B0.zw hY
        replace B1 := B1.zw hY
        replace B2 := B2.zw hY
        replace B3 := B3.zw hY
        replace B4 := B4.zw hY
        replace B5 := B5.zw hY
        replace B6 := B6.zw hY
        replace hb := hb.trans (hY.mono hb.size)
        clear hY
        simp only [Exit.then, e12, e0, e1, e2, e3, e4, e5, e6, e7, e8, e9, e10, e11, e14]
        clear e12 e0 e1 e2 e3 e4 e5 e6 e7 e8 e9 e10 e11 e14
        have B7 := hk7_12
        clear hk7_12
        have zk7_12_0 : w.heap.size < k7_12 := by omega
        have zk7_12_1 : w.heap.size + 1 < k7_12 := by omega
        have zk7_12_2 : w.heap.size + 1 + 1 < k7_12 := by omega
        have zk7_12_3 : w.heap.size + 1 + 1 + 1 < k7_12 := by omega
        have zk7_12_4 : w.heap.size + 1 + 1 + 1 + 1 < k7_12 := by omega
        have zk7_12_5 : N1 < k7_12 := by omega
        have zk7_12_6 : k5_18 < k7_12 := by omega
        clear lt_B0 lt_B1 lt_B2 lt_B3 lt_B4 lt_B5 lt_B6
        go_upto_region 8 with (fail)
        have lt_B0 := B0.lt
        have lt_B1 := B1.lt
        have lt_B2 := B2.lt
        have lt_B3 := B3.lt
        have lt_B4 := B4.lt
        have lt_B5 := B5.lt
        have lt_B6 := B6.lt
        have lt_B7 := B7.lt
        go_upto_region 4 with (first | rw [← z64] | rw [← zero512] | (refine zla (.tmp 6) B1 Try.underlying26 Try.size26 ?_) | (refine zla (.tmp 14) B7 Try.underlying26 Try.size26 ?_) | (go_at_call 183; refine (HK4.out _).mono ?_; rintro e W8 ⟨rfl, hW8⟩; replace B0 := B0.zw hW8; replace B1 := B1.zw hW8; replace B2 := B2.zw hW8; replace B3 := B3.zw hW8; replace B4 := B4.zw hW8; replace B5 := B5.zw hW8; replace B6 := B6.zw hW8; replace B7 := B7.zw hW8; replace hb := (hb).trans (hW8.mono (hb).size)) | (refine zsr (.tmp 6) (.tmp 64) (fl 64 (skA p F (tmP p m d (dvT p m d F G) G) (-1))) B1 Try.size26 ?_; try simp only [Act.put]))
        obtain ⟨W9, hwo, hzQ⟩ : ∃ v : World, v = (W8.setRow (w.heap.size + 1) (zb 512 (fl 64 (skA p F (tmP p m d (dvT p m d F G) G) (-1))))) ∧ Blk v (w.heap.size) 64 24 (m) ∧ Blk v (w.heap.size + 1) 512 26 (fl 64 (skA p F (tmP p m d (dvT p m d F G) G) (-1))) ∧ Blk v (w.heap.size + 1 + 1) 512 26 (fl 64 G) ∧ Blk v (w.heap.size + 1 + 1 + 1) 512 26 (fl 64 (fun _ _ => 0)) ∧ Blk v (w.heap.size + 1 + 1 + 1 + 1) 512 26 (fl 64 (fun _ _ => 0)) ∧ Blk v (N1) 512 26 (fl 64 (updR Q q (dvA p m d F G))) ∧ Blk v (k5_18) 64 24 (dvA p m d F G) ∧ Blk v (k7_12) 512 26 (fl 64 (tmP p m d (dvT p m d F G) G)) ∧ Below w.heap.size w v := ⟨_, rfl, (B0.rowOther (by omega)), (B1.row (fl 64 (skA p F (tmP p m d (dvT p m d F G) G) (-1)))), (B2.rowOther (by omega)), (B3.rowOther (by omega)), (B4.rowOther (by omega)), (B5.rowOther (by omega)), (B6.rowOther (by omega)), (B7.rowOther (by omega)), (zr hb (by omega) _)⟩
        rw [← hwo]
        clear hwo B0 B1 B2 B3 B4 B5 B6 B7 hb
        obtain ⟨B0, B1, B2, B3, B4, B5, B6, B7, hb⟩ := hzQ
        try simp only [Act.put, pA, pB, pC]
        go_wp2_with (first | (refine zla (.tmp 6) B1 Try.underlying26 Try.size26 ?_) | (go_at_call 80; refine (l03Deg_any (skA p F (tmP p m d (dvT p m d F G) G) (-1)) _).mono ?_; rintro e W10 ⟨rfl, hW10⟩; replace B0 := B0.zw hW10; replace B1 := B1.zw hW10; replace B2 := B2.zw hW10; replace B3 := B3.zw hW10; replace B4 := B4.zw hW10; replace B5 := B5.zw hW10; replace B6 := B6.zw hW10; replace B7 := B7.zw hW10; replace hb := (hb).trans (hW10.mono (hb).size)))
        go_roundw
        case rel => exact ⟨fu, _, _, rfl, hI2, hb, B0, B1, B2, B3, B4, B5⟩
        case measure => have h1 : skD (skA p F (tmP p m d (dvT p m d F G) G) (-1)) < (n : Int) := hM.out; have h2 : (-1 : Int) ≤ skD (skA p F (tmP p m d (dvT p m d F G) G) (-1)) := HM0.out; simp only [intOf]; omega
  · have hgeI : ¬ (skD F ≥ (k : Int)) := hge
    have HV := Lib.hid (show (Q, F) = gdU (fun F => dvA p m d F G) (fun F => dvF p m d F G) (skD G) 8 (fun _ _ => 0) F0 by rw [← hI.out.1, gdU_stop (by have := HK.out; omega)])
    have HV1 := Lib.hid (show zb 512 (fl 64 Q) = zb 512 (fl 64 (dq p m d F0 G).1) by rw [← HE.out.1, ← HV.out])
    have HV2 := Lib.hid (show F = (dq p m d F0 G).2 by rw [← HE.out.2, ← HV.out])
    go_upto_region 9 with (fail)
    have lt_B0 : (w.heap.size) < wr.heap.size := B0.lt
    have lt_B1 : (w.heap.size + 1) < wr.heap.size := B1.lt
    have lt_B2 : (w.heap.size + 1 + 1) < wr.heap.size := B2.lt
    have lt_B3 : (w.heap.size + 1 + 1 + 1) < wr.heap.size := B3.lt
    have lt_B4 : (w.heap.size + 1 + 1 + 1 + 1) < wr.heap.size := B4.lt
    have lt_B5 : (N1) < wr.heap.size := B5.lt
    have hbase : w.heap.size ≤ wr.heap.size := hb.size
    refine zq Try.mixed (by kernel_rfl) (by kernel_rfl) (fun v => by (simp only [frL, Act.put, pA, pB, pC, Nat.reduceAdd, Nat.zero_add]; exact rfl))
     (fun L v W5 => Below w.heap.size w W5 ∧ Kx [w.heap.size + 1 + 1 + 1, w.heap.size + 1 + 1 + 1 + 1] wr W5 ∧ (∃ g, Blk W5 (w.heap.size + 1 + 1 + 1) 512 26 (g)) ∧ (L 2 = false → Blk W5 (w.heap.size + 1 + 1 + 1) 512 26 (fl 64 (fun _ _ => 0))) ∧ (L 2 = true → Blk W5 (w.heap.size + 1 + 1 + 1) 512 26 (fl 64 Q)) ∧ (∃ g, Blk W5 (w.heap.size + 1 + 1 + 1 + 1) 512 26 (g)) ∧ (L 3 = false → Blk W5 (w.heap.size + 1 + 1 + 1 + 1) 512 26 (fl 64 (fun _ _ => 0))) ∧ (L 3 = true → Blk W5 (w.heap.size + 1 + 1 + 1 + 1) 512 26 (fl 64 F)) ∧ VF L v [some (.agg (zb 512 (fl 64 Q))), some (.agg (zb 512 (fl 64 F))), none, none]) ?_ ?_ ?_
    · intro v hv0
      exact ⟨hb.drew, Kx.start _ _, ⟨_, B3.drew⟩, (fun _ => B3.drew), (fun h => by cases h), ⟨_, B4.drew⟩, (fun _ => B4.drew), (fun h => by cases h), VF.start⟩
    · refine (.cons rfl ?_ (.cons rfl ?_ (.cons rfl ?_ (.cons rfl ?_ (.nil _)))))
      all_goals intro L v W5 hd hn ⟨hB, hX, x3, q3, n3, x4, q4, n4, V⟩ K hK
      · refine wp_load_any 26 _ rfl _ rfl 512 26 _ (B5.kx hX (by simp <;> omega)) _ Try.underlying26 rfl Try.size26 ?_
        exact hK _ _ _ rfl ⟨hB, hX, x3, q3, n3, x4, q4, n4, V.step 0 rfl⟩
      · refine wp_load_any 26 _ rfl _ rfl 512 26 _ (B1.kx hX (by simp <;> omega)) _ Try.underlying26 rfl Try.size26 ?_
        exact hK _ _ _ rfl ⟨hB, hX, x3, q3, n3, x4, q4, n4, V.step 1 rfl⟩
      · have e0 := V.at (zdq hd 0 rfl) rfl
        obtain ⟨gz, hk⟩ := x3
        refine zsb 26 _ _ rfl _ 512 (fl 64 Q) rfl e0 26 gz hk Try.size26 ?_
        exact hK _ undef _ rfl ⟨zr hB (by omega) _, hX.row (by simp) _, ⟨_, hk.row _⟩, (fun h => absurd h (by simp [setL])), (fun _ => hk.row _), (let ⟨g, h⟩ := x4; ⟨g, (h).rowOther (by omega)⟩), (fun h => (q4 h).rowOther (by omega)), (fun h => (n4 h).rowOther (by omega)), V.skip 2 rfl⟩
      · have e1 := V.at (zdq hd 1 rfl) rfl
        obtain ⟨gz, hk⟩ := x4
        refine zsb 26 _ _ rfl _ 512 (fl 64 F) rfl e1 26 gz hk Try.size26 ?_
        exact hK _ undef _ rfl ⟨zr hB (by omega) _, hX.row (by simp) _, (let ⟨g, h⟩ := x3; ⟨g, (h).rowOther (by omega)⟩), (fun h => (q3 h).rowOther (by omega)), (fun h => (n3 h).rowOther (by omega)), ⟨_, hk.row _⟩, (fun h => absurd h (by simp [setL])), (fun _ => hk.row _), V.skip 3 rfl⟩
    · intro L v W5 hL ⟨hB, hX, x3, q3, n3, x4, q4, n4, V⟩
      have r3 := n3 (hL 2 (by decide))
      have r4 := n4 (hL 3 (by decide))
      have e0 := V.at (hL 0 (by decide)) rfl
      have e1 := V.at (hL 1 (by decide)) rfl
      clear hL x3 q3 n3 x4 q4 n4 V
      replace B0 := B0.kx hX (by simp <;> omega)
      replace B1 := B1.kx hX (by simp <;> omega)
      replace B2 := B2.kx hX (by simp <;> omega)
      replace B5 := B5.kx hX (by simp <;> omega)
      clear hX
      simp only [Exit.then, e0, e1]
      clear e0 e1
      replace B3 := r3
      clear r3
      replace B4 := r4
      clear r4
      replace hb := hB
      clear hB
      clear hbase lt_B0 lt_B1 lt_B2 lt_B3 lt_B4 lt_B5
      go_wp2_with fail
      refine bodyPost_ret (results_any2 rfl _ _ _ 512 _ _ _ 512 _ _ rfl B3 _ Try.underlying26 rfl Try.size26 rfl B4 _ Try.underlying26 rfl Try.size26) rfl ⟨by rw [HV1.out, ← HV2.out], hb⟩
end Go.Proofs.Ytdlojnmggogbaaa
end
section
namespace Go.Proofs.Ytdlojnmggogbaaa
open Go Go.RowKit
set_option linter.unusedVariables false
set_option linter.unusedSimpArgs false
attribute [local irreducible] deg addK okA flV skA skD
theorem ckS_rsk {n : Nat} {m : Nat → Nat} {Fs : List (Nat → Nat → Nat)} {F : Nat → Nat → Nat} (hl : ∀ F, F ∈ Fs → ∀ i, i < 8 → (∀ j, j < 64 → F i j < n) ∧ deg (F i) < deg m) (h : F ∈ Fs) : rsk n m F := fun i hi => hl F h i hi
end Go.Proofs.Ytdlojnmggogbaaa
end
section
namespace Go.Proofs.Ytdlojnmggogbaaa
open Go Go.RowKit
set_option linter.unusedVariables false
/-- two skew polynomials, one behind the other -/
def c2s (F G : Nat → Nat → Nat) : Nat → Nat := fun k => if k < 512 then fl 64 F k else fl 64 G (k - 512)
theorem c2s_0 (F G : Nat → Nat → Nat) : ∀ k, k < 512 → c2s F G (0 + k) = fl 64 F k := by intro k hk; unfold c2s; rw [Nat.zero_add, if_pos hk]
theorem c2s_1 (F G : Nat → Nat → Nat) : ∀ k, k < 512 → c2s F G (512 + k) = fl 64 G k := by intro k hk; unfold c2s; rw [if_neg (by omega), show 512 + k - 512 = k by omega]
theorem Try.size170 : (Try.prog.info? 170).map (·.size) = some 1024 := by kernel_rfl
theorem zero1024 : zb 1024 (fun _ => 0) = Try.zeroCells170 := by simp only [zb, bl]; kernel_rfl
theorem built_sk0 (a : Nat → Nat) : Try.prog.built 26 [(0, .agg (zb 64 a))] = some (zb 512 (fl 64 (sng 0 a))) := by
 unfold zb bl; kernel_rfl
theorem zero_row : ((Try.prog.info? 170).bind fun it => it.zero.map (·.cells)) = some (zb 1024 (fun _ => 0)) := by unfold zb bl; kernel_rfl
theorem places_row : (match Try.prog.underlying 170 with | some (.struct fields) => fields.toList.mapM (fun f => (Try.prog.info? f.type).map fun i => (f.offset, i.size)) | _ => none) = some [(0, 512), (512, 512)] := by kernel_rfl
theorem built_row (parts : List (Nat × Value)) : Try.prog.built 170 parts = Instr.fill ([(0, 512), (512, 512)].toArray[·]?) (zb 1024 (fun _ => 0)) parts := by
 have hz := zero_row
 have hp := places_row
 unfold Program.built
 cases hi : Try.prog.info? 170 with
 | none => rw [hi] at hz; cases hz
 | some it =>
  rw [hi] at hz
  cases hzz : it.zero with
  | none => simp [hzz] at hz
  | some z =>
   have hz2 : z.cells = zb 1024 (fun _ => 0) := by simpa [hzz] using hz
   cases hu : Try.prog.underlying 170 with
   | none => rw [hu] at hp; cases hp
   | some d =>
    rw [hu] at hp
    cases d with
    | struct fields =>
     simp only at hp ⊢
     rw [hzz, hp]
     show Instr.fill _ z.cells parts = _
     rw [hz2]
    | _ => cases hp
theorem fill_at (vs : List (Nat × Value)) (h : ∀ x, x ∈ vs → x.1 < 2) : ∀ cells : Array Value, Instr.fill ([(0, 512), (512, 512)].toArray[·]?) cells vs = Instr.fill (fun i => some (i * 512, 512)) cells vs := by
 induction vs with
 | nil => intro cells; rfl
 | cons x vs ih =>
  intro cells
  obtain ⟨i, v⟩ := x
  have hi : i < 2 := h (i, v) List.mem_cons_self
  have e : ([(0, 512), (512, 512)].toArray[i]?) = some (i * 512, 512) := by
   rcases (show i = 0 ∨ i = 1 by omega) with rfl | rfl <;> rfl
  unfold Instr.fill
  simp only [e]
  split
  · rfl
  · exact ih (fun y hy => h y (List.mem_cons_of_mem _ hy)) _
theorem built_sr1 (F U : Nat → Nat → Nat) : Try.prog.built 170 [(0, .agg (zb 512 (fl 64 F))), (1, .agg (zb 512 (fl 64 U)))] = some (zb 1024 (c2s F U)) := by
 rw [built_row, fill_at _ (by simp)]
 obtain ⟨r, hr, hsz, hk⟩ := Go.Great.fill_dense (s := 512) (by omega) [.agg (zb 512 (fl 64 F)), .agg (zb 512 (fl 64 U))] 0 (zb 1024 (fun _ => 0))
  (fun v hv => by rcases List.mem_cons.1 hv with rfl | hv
                  · exact zbs _ _
                  · rcases List.mem_cons.1 hv with rfl | hv
                    · exact zbs _ _
                    · cases hv) (by rw [zbs]; simp)
 refine Eq.trans hr (congrArg some ?_)
 apply Array.ext_getElem?
 intro k
 rw [hk k]
 by_cases h1 : k < 512
 · rw [if_pos (by simp; omega), show k / 512 - 0 = 0 by omega, show k % 512 = k by omega, bcells_get (show k < 1024 by omega)]
   have := c2s_0 F U k h1
   rw [Nat.zero_add] at this
   rw [this]
   exact bcells_get h1
 · by_cases h2 : k < 1024
   · rw [if_pos (by simp; omega), show k / 512 - 0 = 1 by omega, bcells_get h2]
     have := c2s_1 F U (k - 512) (by omega)
     rw [show 512 + (k - 512) = k by omega] at this
     rw [this, show k % 512 = k - 512 by omega]
     exact bcells_get (show k - 512 < 512 by omega)
   · rw [if_neg (by simp; omega), Array.getElem?_eq_none (by rw [zbs]; omega), Array.getElem?_eq_none (by rw [zbs]; omega)]
theorem built_sr0 (F : Nat → Nat → Nat) : Try.prog.built 170 [(0, .agg (zb 512 (fl 64 F)))] = some (zb 1024 (c2s F (fun _ _ => 0))) := by
 rw [built_row, fill_at _ (by simp)]
 obtain ⟨r, hr, hsz, hk⟩ := Go.Great.fill_dense (s := 512) (by omega) [.agg (zb 512 (fl 64 F))] 0 (zb 1024 (fun _ => 0))
  (fun v hv => by rcases List.mem_cons.1 hv with rfl | hv
                  · exact zbs _ _
                  · cases hv) (by rw [zbs]; simp)
 refine Eq.trans hr (congrArg some ?_)
 apply Array.ext_getElem?
 intro k
 rw [hk k]
 by_cases h1 : k < 512
 · rw [if_pos (by simp; omega), show k / 512 - 0 = 0 by omega, show k % 512 = k by omega, bcells_get (show k < 1024 by omega)]
   have := c2s_0 F (fun _ _ => 0) k h1
   rw [Nat.zero_add] at this
   rw [this]
   exact bcells_get h1
 · rw [if_neg (by simp; omega)]
   by_cases h2 : k < 1024
   · rw [bcells_get h2, bcells_get h2]
     have := c2s_1 F (fun _ _ => 0) (k - 512) (by omega)
     rw [show 512 + (k - 512) = k by omega] at this
     rw [this, fl_zero]
   · rw [Array.getElem?_eq_none (by rw [zbs]; omega), Array.getElem?_eq_none (by rw [zbs]; omega)]
theorem skAt_c2s {w : World} {b : Nat} {t : TypeId} {F G : Nat → Nat → Nat} (h : Blk w b 1024 t (c2s F G)) : skAt w b = (skD F + 1).toNat := by
 unfold skAt
 have e : w.heap[b]? = some (.cells (zb 1024 (c2s F G)) t (0, 0)) := by unfold Blk at h; exact h
 rw [e]
 simp only
 rw [skD_congr (G := F) (fun i hi j hj => by
  rw [bcells_get (f := c2s F G) (show i * 64 + j < 1024 by omega)]
  have h1 := c2s_0 F G (i * 64 + j) (by omega)
  rw [Nat.zero_add, fl_at hj] at h1
  rw [h1]; simp)]
end Go.Proofs.Ytdlojnmggogbaaa
end
section
namespace Go.Proofs.Ytdlojnmggogbaaa
open Go Go.RowKit
set_option linter.unusedVariables false
set_option linter.unusedSimpArgs false
attribute [local irreducible] deg addK strP frI frN mmP pmP resP bzU bzD bzW skA skD sng oneP
set_option maxRecDepth 100000 in
set_option maxHeartbeats 1600000 in
theorem monic_any (p : Nat) (m : Nat → Nat) (F : Nat → Nat → Nat) (w : World) (hpr : p = 2 ∨ p = 3 ∨ p = 5 ∨ p = 7) (lm : ∀ k, k < 64 → m k < p) (d : Nat) (hmon : mon m d) (hi : irr p (cut m) d) (hd9 : d ≤ 9) (hF : rsk p m F) (hF0 : 0 ≤ skD F) :
 Calls Try.prog 96 #[.agg (zb 512 (fl 64 F)), .agg (fdC (p : Int) m).toArray] w fun e w' => e = .returned (.agg (zb 512 (fl 64 (moS p m F)))) ∧ Below w.heap.size w w' := by
 have p0 : 0 < p := by omega
 have hd := hmon.1
 have hd1 := hi.1
 have h0 : 0 ≤ deg m := by omega
 have h9 : deg m ≤ 9 := by omega
 obtain ⟨n, hn⟩ : ∃ n : Nat, skD F = (n : Int) := ⟨(skD F).toNat, by omega⟩
 obtain ⟨n8, fn⟩ := skN_row hn
 have r1 := one_rsd hpr lm hmon hi hd9
 have HLF := Lib.hid (fun W => leading_any F n hn W)
 have HQ := Lib.hid (fun W => quotient_any p m oneP (F n) W hpr lm h0 r1.1 (hF n n8).1)
 have hc0 := mo_ne hpr lm hmon hi hd9 (hF n n8) fn
 have hrs : rsk p m (sng 0 (mmP p oneP (bzU p (F n) m) m)) := sng_rsk hpr lm hmon hi hd9 0 (mm_rsd hpr lm h0)
 have hsd := sng_deg (i := 0) (by omega) hc0
 have hmo := moS_eq hpr lm hmon hi hd9 hF hF0
 rw [hn, show (n : Int).toNat = n from rfl] at hmo
 have HTM := Lib.hid (show ∀ W, Calls Try.prog 87 #[.agg (zb 512 (fl 64 (sng 0 (mmP p oneP (bzU p (F n) m) m)))), .agg (fdC (p : Int) m).toArray, .agg (zb 512 (fl 64 F))] W fun e w' => e = .returned (.agg (zb 512 (fl 64 (moS p m F)))) ∧ Below W.heap.size W w' from fun W => by
  have h := skTimes_any p m _ F W hpr lm d hd hd1 hd9 (fun i hi8 => (hrs i hi8).1) hF (by omega)
  rw [zbc (n := 512) (fl_congr (n := 8) (c := 64) (by decide) hmo)] at h
  exact h)
 clear hF hF0 hn fn r1 hc0 hrs hsd hmo hd hd1 h0 h9 hmon hi lm hpr
 go_enter Try.func96, Try.ntmps96
 go_upto_region 1 with (fail)
 rw [← zero512]
 obtain ⟨W1, hwo⟩ : ∃ v : World, v = (((w.alloc (.cells (zb 512 (fl 64 F)) 26)).alloc (.cells (fdC (p : Int) m).toArray 94)).alloc (.cells (zb 512 (fl 64 (fun _ _ => 0))) 26)) := ⟨_, rfl⟩
 have B0 : Blk W1 (w.heap.size) 512 26 (fl 64 F) := by subst hwo; have := (((Blk.new w 512 26 (fl 64 F)).alloc (.cells (fdC (p : Int) m).toArray 94)).alloc (.cells (zb 512 (fl 64 (fun _ _ => 0))) 26)); simpa using this
 have B1 : Row W1 (w.heap.size + 1) 94 (fdC (p : Int) m).toArray := by subst hwo; have := ((Row.new (w.alloc (.cells (zb 512 (fl 64 F)) 26)) 94 (fdC (p : Int) m).toArray).alloc (.cells (zb 512 (fl 64 (fun _ _ => 0))) 26)); simpa using this
 have B2 : Blk W1 (w.heap.size + 1 + 1) 512 26 (fl 64 (fun _ _ => 0)) := by subst hwo; have := (Blk.new ((w.alloc (.cells (zb 512 (fl 64 F)) 26)).alloc (.cells (fdC (p : Int) m).toArray 94)) 512 26 (fl 64 (fun _ _ => 0))); simpa using this
 have hb : Below w.heap.size w W1 := by subst hwo; exact ((((Below.refl _ _).alloc (Nat.le_refl _) _).alloc (by simp) _).alloc (by simp; omega) _)
 rw [← hwo]
 clear hwo
 have lt_B0 : (w.heap.size) < W1.heap.size := B0.lt
 have lt_B1 : (w.heap.size + 1) < W1.heap.size := B1.lt
 have lt_B2 : (w.heap.size + 1 + 1) < W1.heap.size := B2.lt
 have hbase : w.heap.size ≤ W1.heap.size := hb.size
 refine zq Try.mixed (by kernel_rfl) (by kernel_rfl) (fun v => by (simp only [frL, Act.put, pA, pB, pC, Nat.reduceAdd, Nat.zero_add]; exact rfl))
  (fun L v W2 => Below w.heap.size w W2 ∧ Kx [w.heap.size + 1 + 1] W1 W2 ∧ (∃ g, Blk W2 (w.heap.size + 1 + 1) 512 26 (g)) ∧ (L 9 = false → Blk W2 (w.heap.size + 1 + 1) 512 26 (fl 64 (fun _ _ => 0))) ∧ (L 9 = true → Blk W2 (w.heap.size + 1 + 1) 512 26 (fl 64 (moS p m F))) ∧ VF L v [some (.agg (fdC (p : Int) m).toArray), some (.agg (zb 64 (oneP))), some (.agg (zb 512 (fl 64 F))), some (.agg (zb 64 (F n))), some (.agg (zb 64 (mmP p oneP (bzU p (F n) m) m))), some (.agg (zb 512 (fl 64 (sng 0 (mmP p oneP (bzU p (F n) m) m))))), some (.agg (fdC (p : Int) m).toArray), some (.agg (zb 512 (fl 64 F))), some (.agg (zb 512 (fl 64 (moS p m F)))), none]) ?_ ?_ ?_
 · intro v hv0
   exact ⟨hb.drew, Kx.start _ _, ⟨_, B2.drew⟩, (fun _ => B2.drew), (fun h => by cases h), VF.start⟩
 · refine (.cons rfl ?_ (.cons rfl ?_ (.cons rfl ?_ (.cons rfl ?_ (.cons rfl ?_ (.cons rfl ?_ (.cons rfl ?_ (.cons rfl ?_ (.cons rfl ?_ (.cons rfl ?_ (.nil _)))))))))))
   all_goals intro L v W2 hd hn ⟨hB, hX, x2, q2, n2, V⟩ K hK
   · refine wp_load_rowv 94 _ rfl _ rfl 94 _ (B1.kx hX (by simp <;> omega)) _ Try.underlying94 rfl 65 Try.size94 (by simp [fdC_len]) ?_
     exact hK _ _ _ rfl ⟨hB, hX, x2, q2, n2, V.step 0 rfl⟩
   · refine wp_build_of 24 _ rfl (zb 64 oneP) (by rw [Array.toList_map]; show Try.prog.built 24 [(0, .int .u8 1)] = some (zb 64 oneP); exact built_one) ?_
     exact hK _ _ _ rfl ⟨hB, hX, x2, q2, n2, V.step 1 rfl⟩
   · refine wp_load_any 26 _ rfl _ rfl 512 26 _ (B0.kx hX (by simp <;> omega)) _ Try.underlying26 rfl Try.size26 ?_
     exact hK _ _ _ rfl ⟨hB, hX, x2, q2, n2, V.step 2 rfl⟩
   · have e2 := V.at (zdq hd 2 rfl) rfl
     go_wp2_with (go_at_call 186; refine (HLF.out _).mono ?_; rintro e wy ⟨rfl, hy⟩)
     exact hK _ (.agg (zb 64 (F n))) _ (by simp only [Act.put, pA, pB, pC, e2]) ⟨hB.trans (hy.mono hB.size), hX.below hy, (let ⟨g, h⟩ := x2; ⟨g, h.zw hy⟩), (fun h => (q2 h).below hy (q2 h).lt), (fun h => (n2 h).below hy (n2 h).lt), V.step 3 rfl⟩
   · have e0 := V.at (zdq hd 0 rfl) rfl
     have e1 := V.at (zdq hd 1 rfl) rfl
     have e3 := V.at (zdq hd 3 rfl) rfl
     go_wp2_with (go_at_call 185; refine (HQ.out _).mono ?_; rintro e wy ⟨rfl, hy⟩)
     exact hK _ (.agg (zb 64 (mmP p oneP (bzU p (F n) m) m))) _ (by simp only [Act.put, pA, pB, pC, e0, e1, e3]) ⟨hB.trans (hy.mono hB.size), hX.below hy, (let ⟨g, h⟩ := x2; ⟨g, h.zw hy⟩), (fun h => (q2 h).below hy (q2 h).lt), (fun h => (n2 h).below hy (n2 h).lt), V.step 4 rfl⟩
   · have e4 := V.at (zdq hd 4 rfl) rfl
     refine wp_build_of 26 _ rfl (zb 512 (fl 64 (sng 0 (mmP p oneP (bzU p (F n) m) m)))) (by rw [Array.toList_map]; show Try.prog.built 26 [(0, v 4)] = some (zb 512 (fl 64 (sng 0 (mmP p oneP (bzU p (F n) m) m)))); rw [e4]; exact built_sk0 _) ?_
     exact hK _ _ _ rfl ⟨hB, hX, x2, q2, n2, V.step 5 rfl⟩
   · refine wp_load_rowv 94 _ rfl _ rfl 94 _ (B1.kx hX (by simp <;> omega)) _ Try.underlying94 rfl 65 Try.size94 (by simp [fdC_len]) ?_
     exact hK _ _ _ rfl ⟨hB, hX, x2, q2, n2, V.step 6 rfl⟩
   · refine wp_load_any 26 _ rfl _ rfl 512 26 _ (B0.kx hX (by simp <;> omega)) _ Try.underlying26 rfl Try.size26 ?_
     exact hK _ _ _ rfl ⟨hB, hX, x2, q2, n2, V.step 7 rfl⟩
   · have e5 := V.at (zdq hd 5 rfl) rfl
     have e6 := V.at (zdq hd 6 rfl) rfl
     have e7 := V.at (zdq hd 7 rfl) rfl
     go_wp2_with (go_at_call 87; refine (HTM.out _).mono ?_; rintro e wy ⟨rfl, hy⟩)
     exact hK _ (.agg (zb 512 (fl 64 (moS p m F)))) _ (by simp only [Act.put, pA, pB, pC, e5, e6, e7]) ⟨hB.trans (hy.mono hB.size), hX.below hy, (let ⟨g, h⟩ := x2; ⟨g, h.zw hy⟩), (fun h => (q2 h).below hy (q2 h).lt), (fun h => (n2 h).below hy (n2 h).lt), V.step 8 rfl⟩
   · have e8 := V.at (zdq hd 8 rfl) rfl
     obtain ⟨gz, hk⟩ := x2
     refine zsb 26 _ _ rfl _ 512 (fl 64 (moS p m F)) rfl e8 26 gz hk Try.size26 ?_
     exact hK _ undef _ rfl ⟨zr hB (by omega) _, hX.row (by simp) _, ⟨_, hk.row _⟩, (fun h => absurd h (by simp [setL])), (fun _ => hk.row _), V.skip 9 rfl⟩
 · intro L v W2 hL ⟨hB, hX, x2, q2, n2, V⟩
   have r2 := n2 (hL 9 (by decide))
   have e0 := V.at (hL 0 (by decide)) rfl
   have e1 := V.at (hL 1 (by decide)) rfl
   have e2 := V.at (hL 2 (by decide)) rfl
   have e3 := V.at (hL 3 (by decide)) rfl
   have e4 := V.at (hL 4 (by decide)) rfl
   have e5 := V.at (hL 5 (by decide)) rfl
   have e6 := V.at (hL 6 (by decide)) rfl
   have e7 := V.at (hL 7 (by decide)) rfl
   have e8 := V.at (hL 8 (by decide)) rfl
   clear hL x2 q2 n2 V
   replace B0 := B0.kx hX (by simp <;> omega)
   replace B1 := B1.kx hX (by simp <;> omega)
   clear hX
   simp only [Exit.then, e0, e1, e2, e3, e4, e5, e6, e7, e8]
   clear e0 e1 e2 e3 e4 e5 e6 e7 e8
   replace B2 := r2
   clear r2
   replace hb := hB
   clear hB
   clear hbase lt_B0 lt_B1 lt_B2
   go_wp2_with fail
   refine bodyPost_ret (results_any rfl _ _ _ 512 _ _ rfl B2 _ Try.underlying26 rfl Try.size26) rfl ⟨rfl, hb⟩
set_option maxRecDepth 100000 in
set_option maxHeartbeats 1600000 in
theorem common_any (p : Nat) (m : Nat → Nat) (F0 G0 : Nat → Nat → Nat) (w : World) (hpr : p = 2 ∨ p = 3 ∨ p = 5 ∨ p = 7) (lm : ∀ k, k < 64 → m k < p) (d : Nat) (hmon : mon m d) (hi : irr p (cut m) d) (hd9 : d ≤ 9) (hF : rsk p m F0) (hG : rsk p m G0) :
 Calls Try.prog 95 #[.agg (zb 512 (fl 64 F0)), .agg (fdC (p : Int) m).toArray, .agg (zb 512 (fl 64 G0))] w fun e w' => e = .returned (.tuple #[.agg (zb 512 (fl 64 (eu p m d 9 F0 G0 (sng 0 oneP) (fun _ _ => 0)).1)), .agg (zb 512 (fl 64 (eu p m d 9 F0 G0 (sng 0 oneP) (fun _ _ => 0)).2))]) ∧ Below w.heap.size w w' := by
 have p0 : 0 < p := by omega
 have hd := hmon.1
 have hd1 := hi.1
 have h0 : 0 ≤ deg m := by omega
 have h9 : deg m ≤ 9 := by omega
 have p2 : 2 ≤ p := by omega
 have p7 : p ≤ 7 := by omega
 have g7 := (zsd G0).2
 have HI0 := Lib.hid (show skD G0 < ((9 : Nat) : Int) ∧ EI p m F0 G0 (sng 0 oneP) (fun _ _ => 0) (skD G0) from ⟨by omega, EI_start hpr lm hmon hi hd9 hF hG⟩)
 have HDV := Lib.hid (fun (A B : Nat → Nat → Nat) (hA : rsk p m A) (hB : rsk p m B) (h : 0 ≤ skD B) W => skDivR_any p m A B W hpr lm d hmon hi hd9 hA hB h)
 have HDQ := Lib.hid (fun (A B : Nat → Nat → Nat) (hA : rsk p m A) (hB : rsk p m B) (h : 0 ≤ skD B) => dq_ok hpr lm hmon hi hd9 hA hB h)
 have HFI := Lib.hid (fun (A B U Vv : Nat → Nat → Nat) (H : EI p m A B U Vv (skD G0)) (h : 0 ≤ skD B) => EI_fit hpr lm hmon hi hd9 H h g7)
 have HST := Lib.hid (fun (A B U Vv : Nat → Nat → Nat) (H : EI p m A B U Vv (skD G0)) (h : 0 ≤ skD B) => EI_step hpr lm hmon hi hd9 H h g7)
 have HTI := Lib.hid (fun (Q Vv : Nat → Nat → Nat) (hQ : rsk p m Q) (hV : rsk p m Vv) (h : skD Q + skD Vv ≤ 7) W => skTimes_any p m Q Vv W hpr lm d hd hd1 hd9 (fun i hi8 => (hQ i hi8).1) hV h)
 have HMI := Lib.hid (fun (Q T : Nat → Nat → Nat) (hQ : rsk p m Q) (hT : rsk p m T) W => skMinus_any p m Q T W p2 p7 (fun i hi8 => (hQ i hi8).1) (fun i hi8 => (hT i hi8).1))
 have HP := Lib.hid (fun (F G : Nat → Nat → Nat) => show rsk p m (tmP p m d F G) from fun i _ => tmP_rsd hpr lm h0 i)
 clear hF hG hd hd1 h0 h9 hmon hi lm hpr g7
 go_enter Try.func95, Try.ntmps95
 go_upto_region 1 with (fail)
 rw [← zero512]
 obtain ⟨W1, hwo⟩ : ∃ v : World, v = (((((w.alloc (.cells (zb 512 (fl 64 F0)) 26)).alloc (.cells (fdC (p : Int) m).toArray 94)).alloc (.cells (zb 512 (fl 64 G0)) 26)).alloc (.cells (zb 512 (fl 64 (fun _ _ => 0))) 26)).alloc (.cells (zb 512 (fl 64 (fun _ _ => 0))) 26)) := ⟨_, rfl⟩
 have B0 : Blk W1 (w.heap.size) 512 26 (fl 64 F0) := by subst hwo; have := (((((Blk.new w 512 26 (fl 64 F0)).alloc (.cells (fdC (p : Int) m).toArray 94)).alloc (.cells (zb 512 (fl 64 G0)) 26)).alloc (.cells (zb 512 (fl 64 (fun _ _ => 0))) 26)).alloc (.cells (zb 512 (fl 64 (fun _ _ => 0))) 26)); simpa using this
 have B1 : Row W1 (w.heap.size + 1) 94 (fdC (p : Int) m).toArray := by subst hwo; have := ((((Row.new (w.alloc (.cells (zb 512 (fl 64 F0)) 26)) 94 (fdC (p : Int) m).toArray).alloc (.cells (zb 512 (fl 64 G0)) 26)).alloc (.cells (zb 512 (fl 64 (fun _ _ => 0))) 26)).alloc (.cells (zb 512 (fl 64 (fun _ _ => 0))) 26)); simpa using this
 have B2 : Blk W1 (w.heap.size + 1 + 1) 512 26 (fl 64 G0) := by subst hwo; have := (((Blk.new ((w.alloc (.cells (zb 512 (fl 64 F0)) 26)).alloc (.cells (fdC (p : Int) m).toArray 94)) 512 26 (fl 64 G0)).alloc (.cells (zb 512 (fl 64 (fun _ _ => 0))) 26)).alloc (.cells (zb 512 (fl 64 (fun _ _ => 0))) 26)); simpa using this
 have B3 : Blk W1 (w.heap.size + 1 + 1 + 1) 512 26 (fl 64 (fun _ _ => 0)) := by subst hwo; have := ((Blk.new (((w.alloc (.cells (zb 512 (fl 64 F0)) 26)).alloc (.cells (fdC (p : Int) m).toArray 94)).alloc (.cells (zb 512 (fl 64 G0)) 26)) 512 26 (fl 64 (fun _ _ => 0))).alloc (.cells (zb 512 (fl 64 (fun _ _ => 0))) 26)); simpa using this
 have B4 : Blk W1 (w.heap.size + 1 + 1 + 1 + 1) 512 26 (fl 64 (fun _ _ => 0)) := by subst hwo; have := (Blk.new ((((w.alloc (.cells (zb 512 (fl 64 F0)) 26)).alloc (.cells (fdC (p : Int) m).toArray 94)).alloc (.cells (zb 512 (fl 64 G0)) 26)).alloc (.cells (zb 512 (fl 64 (fun _ _ => 0))) 26)) 512 26 (fl 64 (fun _ _ => 0))); simpa using this
 have hb : Below w.heap.size w W1 := by subst hwo; exact ((((((Below.refl _ _).alloc (Nat.le_refl _) _).alloc (by simp) _).alloc (by simp; omega) _).alloc (by simp; omega) _).alloc (by simp; omega) _)
 rw [← hwo]
 clear hwo
 have lt_B0 : (w.heap.size) < W1.heap.size := B0.lt
 have lt_B1 : (w.heap.size + 1) < W1.heap.size := B1.lt
 have lt_B2 : (w.heap.size + 1 + 1) < W1.heap.size := B2.lt
 have lt_B3 : (w.heap.size + 1 + 1 + 1) < W1.heap.size := B3.lt
 have lt_B4 : (w.heap.size + 1 + 1 + 1 + 1) < W1.heap.size := B4.lt
 refine zq Try.mixed (by kernel_rfl) (by kernel_rfl) (fun v => by (simp only [frL, Act.put, pA, pB, pC, Nat.reduceAdd, Nat.zero_add]; exact rfl))
  (fun L v W2 => Below W1.heap.size W1 W2 ∧ (L 6 = true → AF (v 6) W2 W1.heap.size 1024 170) ∧ (L 7 = true → AF (v 7) W2 W1.heap.size 1024 170) ∧ (L 8 = true → PF (v 6) W2 W1.heap.size 1024 170 (c2s F0 (sng 0 oneP))) ∧ (L 9 = true → PF (v 7) W2 W1.heap.size 1024 170 (c2s G0 (fun _ _ => 0))) ∧ (L 6 = true → L 7 = true → v 6 ≠ v 7) ∧ VF L v [some (.agg (zb 512 (fl 64 F0))), some (.agg (zb 64 (oneP))), some (.agg (zb 512 (fl 64 (sng 0 oneP)))), some (.agg (zb 1024 (c2s F0 (sng 0 oneP)))), some (.agg (zb 512 (fl 64 G0))), some (.agg (zb 1024 (c2s G0 (fun _ _ => 0)))), none, none, none, none]) ?_ ?_ ?_
 · intro v hv0
   exact ⟨(Below.refl _ W1).drew, (fun h => by cases h), (fun h => by cases h), (fun h => by cases h), (fun h => by cases h), (fun h => by cases h), VF.start⟩
 · refine (.cons rfl ?_ (.cons rfl ?_ (.cons rfl ?_ (.cons rfl ?_ (.cons rfl ?_ (.cons rfl ?_ (.cons rfl ?_ (.cons rfl ?_ (.cons rfl ?_ (.cons rfl ?_ (.nil _)))))))))))
   all_goals intro L v W2 hd hn ⟨hY, h6, h7, h8, h9, d6_7, V⟩ K hK
   · refine zlc (B0.zw hY) Try.underlying26 Try.size26 ?_
     exact hK _ _ _ rfl ⟨hY, h6, h7, h8, h9, d6_7, V.step 0 rfl⟩
   · refine wp_build_of 24 _ rfl (zb 64 oneP) (by rw [Array.toList_map]; show Try.prog.built 24 [(0, .int .u8 1)] = some (zb 64 oneP); exact built_one) ?_
     exact hK _ _ _ rfl ⟨hY, h6, h7, h8, h9, d6_7, V.step 1 rfl⟩
   · have e1 := V.at (zdq hd 1 rfl) rfl
     refine wp_build_of 26 _ rfl (zb 512 (fl 64 (sng 0 oneP))) (by rw [Array.toList_map]; show Try.prog.built 26 [(0, v 1)] = some (zb 512 (fl 64 (sng 0 oneP))); rw [e1]; exact built_sk0 _) ?_
     exact hK _ _ _ rfl ⟨hY, h6, h7, h8, h9, d6_7, V.step 2 rfl⟩
   · have e0 := V.at (zdq hd 0 rfl) rfl
     have e2 := V.at (zdq hd 2 rfl) rfl
     refine wp_build_of 170 _ rfl (zb 1024 (c2s F0 (sng 0 oneP))) (by rw [Array.toList_map]; show Try.prog.built 170 [(0, v 0), (1, v 2)] = some (zb 1024 (c2s F0 (sng 0 oneP))); rw [e0, e2]; exact built_sr1 _ _) ?_
     exact hK _ _ _ rfl ⟨hY, h6, h7, h8, h9, d6_7, V.step 3 rfl⟩
   · refine zlc (B2.zw hY) Try.underlying26 Try.size26 ?_
     exact hK _ _ _ rfl ⟨hY, h6, h7, h8, h9, d6_7, V.step 4 rfl⟩
   · have e4 := V.at (zdq hd 4 rfl) rfl
     refine wp_build_of 170 _ rfl (zb 1024 (c2s G0 (fun _ _ => 0))) (by rw [Array.toList_map]; show Try.prog.built 170 [(0, v 4)] = some (zb 1024 (c2s G0 (fun _ _ => 0))); rw [e4]; exact built_sr0 _) ?_
     exact hK _ _ _ rfl ⟨hY, h6, h7, h8, h9, d6_7, V.step 5 rfl⟩
   · go_wp2_with fail
     rw [← zero1024]
     exact hK _ (.pointer (some ⟨W2.heap.size, 0, none⟩)) _ (by simp only [Act.put, pA, pB, pC ]) ⟨hY.alloc hY.size _, (fun _ => (PF.new W2 1024 170 _ hY.size).af), (fun h => (h7 h).below (zal _ _)), (fun h => absurd rfl (hn 8 _ rfl h ⟨6, .data⟩ (by simp) rfl)), (fun h => (h9 h).below (zal _ _)), (fun h g1 => Ne.symm ((h7 g1).ne_new)), V.skip 6 rfl⟩
   · go_wp2_with fail
     rw [← zero1024]
     exact hK _ (.pointer (some ⟨W2.heap.size, 0, none⟩)) _ (by simp only [Act.put, pA, pB, pC ]) ⟨hY.alloc hY.size _, (fun h => (h6 h).below (zal _ _)), (fun _ => (PF.new W2 1024 170 _ hY.size).af), (fun h => (h8 h).below (zal _ _)), (fun h => absurd rfl (hn 9 _ rfl h ⟨7, .data⟩ (by simp) rfl)), (fun h g1 => (h6 h).ne_new), V.skip 7 rfl⟩
   · have e3 := V.at (zdq hd 3 rfl) rfl
     obtain ⟨gz, b, ea, hN, hk⟩ := (h6 (zdq hd 6 rfl)).out
     refine zsb 170 _ _ rfl b 1024 (c2s F0 (sng 0 oneP)) ea e3 170 gz hk Try.size170 ?_
     exact hK _ undef _ rfl ⟨zr hY hN _, (fun h => (h6 h).row hk), (fun h => (h7 h).row hk), (fun _ => by rw [show updV v 8 undef 6 = v 6 from rfl, ea]; exact PF.row hk hN _), (fun h => (h9 h).rowOther (by rw [← ea]; exact (Ne.symm (d6_7 (zdq hd 6 rfl) (zdq hd 7 rfl))))), d6_7, V.skip 8 rfl⟩
   · have e5 := V.at (zdq hd 5 rfl) rfl
     obtain ⟨gz, b, ea, hN, hk⟩ := (h7 (zdq hd 7 rfl)).out
     refine zsb 170 _ _ rfl b 1024 (c2s G0 (fun _ _ => 0)) ea e5 170 gz hk Try.size170 ?_
     exact hK _ undef _ rfl ⟨zr hY hN _, (fun h => (h6 h).row hk), (fun h => (h7 h).row hk), (fun h => (h8 h).rowOther (by rw [← ea]; exact (d6_7 (zdq hd 6 rfl) (zdq hd 7 rfl)))), (fun _ => by rw [show updV v 9 undef 7 = v 7 from rfl, ea]; exact PF.row hk hN _), d6_7, V.skip 9 rfl⟩
 · intro L v W2 hL ⟨hY, h6, h7, h8, h9, d6_7, V⟩
   obtain ⟨k1_6, e6, hNk1_6, hk1_6⟩ := (h8 (hL 8 (by decide))).out
   obtain ⟨k1_7, e7, hNk1_7, hk1_7⟩ := (h9 (hL 9 (by decide))).out
   have n6_7 := d6_7 (hL 6 (by decide)) (hL 7 (by decide))
   have e0 := V.at (hL 0 (by decide)) rfl
   have e1 := V.at (hL 1 (by decide)) rfl
   have e2 := V.at (hL 2 (by decide)) rfl
   have e3 := V.at (hL 3 (by decide)) rfl
   have e4 := V.at (hL 4 (by decide)) rfl
   have e5 := V.at (hL 5 (by decide)) rfl
   clear hL h6 h7 h8 h9 d6_7 V
   replace B0 := B0.zw hY
   replace B1 := B1.zw hY
   replace B2 := B2.zw hY
   replace B3 := B3.zw hY
   replace B4 := B4.zw hY
   replace hb := hb.trans (hY.mono hb.size)
   clear hY
   rw [e6, e7] at n6_7
   have mk1_6_7 : k1_6 ≠ k1_7 := fun h => n6_7 (by rw [h])
   clear n6_7
   simp only [Exit.then, e6, e7, e0, e1, e2, e3, e4, e5]
   clear e6 e7 e0 e1 e2 e3 e4 e5
   have B5 := hk1_6
   clear hk1_6
   have zk1_6_0 : w.heap.size < k1_6 := by omega
   have zk1_6_1 : w.heap.size + 1 < k1_6 := by omega
   have zk1_6_2 : w.heap.size + 1 + 1 < k1_6 := by omega
   have zk1_6_3 : w.heap.size + 1 + 1 + 1 < k1_6 := by omega
   have zk1_6_4 : w.heap.size + 1 + 1 + 1 + 1 < k1_6 := by omega
   have B6 := hk1_7
   clear hk1_7
   have zk1_7_0 : w.heap.size < k1_7 := by omega
   have zk1_7_1 : w.heap.size + 1 < k1_7 := by omega
   have zk1_7_2 : w.heap.size + 1 + 1 < k1_7 := by omega
   have zk1_7_3 : w.heap.size + 1 + 1 + 1 < k1_7 := by omega
   have zk1_7_4 : w.heap.size + 1 + 1 + 1 + 1 < k1_7 := by omega
   clear lt_B0 lt_B1 lt_B2 lt_B3 lt_B4
   go_wp2_with fail
   go_loopw [10] (fun _ wr => ∃ (fu : Nat) (A B U Vv : Nat → Nat → Nat), Hid (eu p m d fu A B U Vv = eu p m d 9 F0 G0 (sng 0 oneP) (fun _ _ => 0) ∧ skD B < (fu : Int) ∧ EI p m A B U Vv (skD G0)) ∧ Below w.heap.size w wr ∧ Row wr (w.heap.size + 1) 94 (fdC (p : Int) m).toArray ∧ Blk wr (w.heap.size + 1 + 1 + 1) 512 26 (fl 64 (fun _ _ => 0)) ∧ Blk wr (w.heap.size + 1 + 1 + 1 + 1) 512 26 (fl 64 (fun _ _ => 0)) ∧ Blk wr (k1_6) 1024 170 (c2s A U) ∧ Blk wr (k1_7) 1024 170 (c2s B Vv)) (fun _ wr => skAt wr (k1_7))
   case atStart => exact ⟨9, _, _, _, _, Lib.hid ⟨rfl, HI0.out.1, HI0.out.2⟩, hb, B1, B3, B4, B5, B6⟩
   case round =>
    clear hb B0 B2 B1 B3 B4 B5 B6 HI0
    obtain ⟨fu, A, B, U, Vv, hI, hb, B1, B3, B4, B5, B6⟩ := hrel
    have BF0 := Lib.hid B6
    have hgd := Try.noGuard26
    have heq := fun W => run_equalIn_sk (P := Try.prog) W 9997 26 24 5 B (fun _ _ => 0) Try.underlying26 Try.underlying24 Try.underlying5 Try.size24 Try.size5
    rw [skE_zero] at heq
    by_cases hz : skD B < 0
    · have HV := Lib.hid (show (A, Vv) = eu p m d 9 F0 G0 (sng 0 oneP) (fun _ _ => 0) by rw [← hI.out.1, eu_stop hz])
      rw [decide_eq_true hz] at heq
      go_upto_region 5 with (first | rw [← zero512] | (refine wpList_load_mid rfl 26 (.tmp 18) rfl _ 0 rfl (bl 512 (fl 64 B)) _ ((B6).mid (by omega) (c2s_0 _ _)) Try.underlying26 rfl (by rw [zl]; exact Try.size26) ?_))
      clear heq hgd
      have lt_B1 : (w.heap.size + 1) < wr.heap.size := B1.lt
      have lt_B3 : (w.heap.size + 1 + 1 + 1) < wr.heap.size := B3.lt
      have lt_B4 : (w.heap.size + 1 + 1 + 1 + 1) < wr.heap.size := B4.lt
      have lt_B5 : (k1_6) < wr.heap.size := B5.lt
      have lt_B6 : (k1_7) < wr.heap.size := B6.lt
      have hbase : w.heap.size ≤ wr.heap.size := hb.size
      refine zq Try.mixed (by kernel_rfl) (by kernel_rfl) (fun v => by (simp only [frL, Act.put, pA, pB, pC, Nat.reduceAdd, Nat.zero_add]; exact rfl))
       (fun L v W3 => Below w.heap.size w W3 ∧ Kx [w.heap.size + 1 + 1 + 1, w.heap.size + 1 + 1 + 1 + 1] wr W3 ∧ (∃ g, Blk W3 (w.heap.size + 1 + 1 + 1) 512 26 (g)) ∧ (L 4 = false → Blk W3 (w.heap.size + 1 + 1 + 1) 512 26 (fl 64 (fun _ _ => 0))) ∧ (L 4 = true → Blk W3 (w.heap.size + 1 + 1 + 1) 512 26 (fl 64 A)) ∧ (∃ g, Blk W3 (w.heap.size + 1 + 1 + 1 + 1) 512 26 (g)) ∧ (L 5 = false → Blk W3 (w.heap.size + 1 + 1 + 1 + 1) 512 26 (fl 64 (fun _ _ => 0))) ∧ (L 5 = true → Blk W3 (w.heap.size + 1 + 1 + 1 + 1) 512 26 (fl 64 Vv)) ∧ VF L v [some (.pointer (some ⟨k1_6, 0, none⟩)), some (.agg (zb 512 (fl 64 A))), some (.pointer (some ⟨k1_7, 512, none⟩)), some (.agg (zb 512 (fl 64 Vv))), none, none]) ?_ ?_ ?_
      · intro v hv0
        exact ⟨hb.drew, Kx.start _ _, ⟨_, B3.drew⟩, (fun _ => B3.drew), (fun h => by cases h), ⟨_, B4.drew⟩, (fun _ => B4.drew), (fun h => by cases h), VF.start⟩
      · refine (.cons rfl ?_ (.cons rfl ?_ (.cons rfl ?_ (.cons rfl ?_ (.cons rfl ?_ (.cons rfl ?_ (.nil _)))))))
        all_goals intro L v W3 hd hn ⟨hB, hX, x1, q1, n1, x2, q2, n2, V⟩ K hK
        · go_wp2_with fail
          exact hK _ (.pointer (some ⟨k1_6, 0, none⟩)) _ (by simp only [Act.put, pA, pB, pC ]) ⟨hB, hX, x1, q1, n1, x2, q2, n2, V.step 0 rfl⟩
        · have e0 := V.at (zdq hd 0 rfl) rfl
          refine wp_load_mid 26 _ rfl _ (0) e0 _ _ ((B5.kx hX (by simp <;> omega)).mid (by omega) (c2s_0 _ _)) Try.underlying26 rfl (by rw [zl]; exact Try.size26) ?_
          exact hK _ _ _ rfl ⟨hB, hX, x1, q1, n1, x2, q2, n2, V.step 1 rfl⟩
        · go_wp2_with fail
          exact hK _ (.pointer (some ⟨k1_7, 512, none⟩)) _ (by simp only [Act.put, pA, pB, pC ]) ⟨hB, hX, x1, q1, n1, x2, q2, n2, V.step 2 rfl⟩
        · have e2 := V.at (zdq hd 2 rfl) rfl
          refine wp_load_mid 26 _ rfl _ (512) e2 _ _ ((B6.kx hX (by simp <;> omega)).mid (by omega) (c2s_1 _ _)) Try.underlying26 rfl (by rw [zl]; exact Try.size26) ?_
          exact hK _ _ _ rfl ⟨hB, hX, x1, q1, n1, x2, q2, n2, V.step 3 rfl⟩
        · have e1 := V.at (zdq hd 1 rfl) rfl
          obtain ⟨gz, hk⟩ := x1
          refine zsb 26 _ _ rfl _ 512 (fl 64 A) rfl e1 26 gz hk Try.size26 ?_
          exact hK _ undef _ rfl ⟨zr hB (by omega) _, hX.row (by simp) _, ⟨_, hk.row _⟩, (fun h => absurd h (by simp [setL])), (fun _ => hk.row _), (let ⟨g, h⟩ := x2; ⟨g, (h).rowOther (by omega)⟩), (fun h => (q2 h).rowOther (by omega)), (fun h => (n2 h).rowOther (by omega)), V.skip 4 rfl⟩
        · have e3 := V.at (zdq hd 3 rfl) rfl
          obtain ⟨gz, hk⟩ := x2
          refine zsb 26 _ _ rfl _ 512 (fl 64 Vv) rfl e3 26 gz hk Try.size26 ?_
          exact hK _ undef _ rfl ⟨zr hB (by omega) _, hX.row (by simp) _, (let ⟨g, h⟩ := x1; ⟨g, (h).rowOther (by omega)⟩), (fun h => (q1 h).rowOther (by omega)), (fun h => (n1 h).rowOther (by omega)), ⟨_, hk.row _⟩, (fun h => absurd h (by simp [setL])), (fun _ => hk.row _), V.skip 5 rfl⟩
      · intro L v W3 hL ⟨hB, hX, x1, q1, n1, x2, q2, n2, V⟩
        have r1 := n1 (hL 4 (by decide))
        have r2 := n2 (hL 5 (by decide))
        have e0 := V.at (hL 0 (by decide)) rfl
        have e1 := V.at (hL 1 (by decide)) rfl
        have e2 := V.at (hL 2 (by decide)) rfl
        have e3 := V.at (hL 3 (by decide)) rfl
        clear hL x1 q1 n1 x2 q2 n2 V
        replace B1 := B1.kx hX (by simp <;> omega)
        replace B5 := B5.kx hX (by simp <;> omega)
        replace B6 := B6.kx hX (by simp <;> omega)
        clear hX
        simp only [Exit.then, e0, e1, e2, e3]
        clear e0 e1 e2 e3
        replace B3 := r1
        clear r1
        replace B4 := r2
        clear r2
        replace hb := hB
        clear hB
        clear hbase lt_B1 lt_B3 lt_B4 lt_B5 lt_B6
        go_wp2_with fail
        refine bodyPost_ret (results_any2 rfl _ _ _ 512 _ _ _ 512 _ _ rfl B3 _ Try.underlying26 rfl Try.size26 rfl B4 _ Try.underlying26 rfl Try.size26) rfl ⟨by rw [← HV.out], hb⟩
    · rw [decide_eq_false hz] at heq
      obtain ⟨i1, i2, i3⟩ := hI.out
      obtain ⟨rA, rB, rU, rV, i4⟩ := i3
      have hB0 : 0 ≤ skD B := by omega
      obtain ⟨q1, q2, q3, q4, q5⟩ := HDQ.out A B rA rB hB0
      obtain ⟨fu, rfl⟩ : ∃ x, fu = x + 1 := ⟨fu - 1, by omega⟩
      have hI2 := Lib.hid (show eu p m d fu B (dq p m d A B).2 Vv (skA p U (tmP p m d (dq p m d A B).1 Vv) (-1)) = eu p m d 9 F0 G0 (sng 0 oneP) (fun _ _ => 0) ∧ skD (dq p m d A B).2 < (fu : Int) ∧ EI p m B (dq p m d A B).2 Vv (skA p U (tmP p m d (dq p m d A B).1 Vv) (-1)) (skD G0) from ⟨by rw [← i1, eu_step hz], by omega, HST.out A B U Vv hI.out.2.2 hB0⟩)
      have HK1 := Lib.hid (HDV.out A B rA rB hB0)
      have HK2 := Lib.hid (HTI.out (dq p m d A B).1 Vv q1 rV (HFI.out A B U Vv hI.out.2.2 hB0))
      have HK3 := Lib.hid (HMI.out U (tmP p m d (dq p m d A B).1 Vv) rU (HP.out _ _))
      have hM := Lib.hid (show skD (dq p m d A B).2 < skD B ∧ 0 ≤ skD B from ⟨q3, hB0⟩)
      clear i1 i2 i4 rA rB rU rV hB0 q1 q2 q3 q4 q5 hI hz
      go_upto_region 3 with (first | rw [← zero512] | (refine wpList_load_mid rfl 26 (.tmp 18) rfl _ 0 rfl (bl 512 (fl 64 B)) _ ((B6).mid (by omega) (c2s_0 _ _)) Try.underlying26 rfl (by rw [zl]; exact Try.size26) ?_))
      clear heq hgd
      have lt_B1 := B1.lt
      have lt_B3 := B3.lt
      have lt_B4 := B4.lt
      have lt_B5 := B5.lt
      have lt_B6 := B6.lt
      go_upto_region 4 with (first | rw [← z64] | rw [← zero512] | (refine wpList_load_mid rfl 26 (.tmp 23) rfl _ 0 rfl (bl 512 (fl 64 A)) _ ((B5).mid (by omega) (c2s_0 _ _)) Try.underlying26 rfl (by rw [zl]; exact Try.size26) ?_) | (refine zlr rfl 94 (.tmp 4) rfl _ rfl 94 (fdC (p : Int) m).toArray B1 _ Try.underlying94 rfl 65 Try.size94 (by simp [fdC_len]) ?_) | (refine wpList_load_mid rfl 26 (.tmp 26) rfl _ 0 rfl (bl 512 (fl 64 B)) _ ((B6).mid (by omega) (c2s_0 _ _)) Try.underlying26 rfl (by rw [zl]; exact Try.size26) ?_) | (go_at_call 184; refine (HK1.out _).mono ?_; rintro e W3 ⟨rfl, hW3⟩; replace B1 := B1.zw hW3; replace B3 := B3.zw hW3; replace B4 := B4.zw hW3; replace B5 := B5.zw hW3; replace B6 := B6.zw hW3; replace hb := (hb).trans (hW3.mono (hb).size)) | (refine wpList_store_blk rfl 26 (.tmp 10) (.tmp 29) rfl _ 512 (fl 64 (dq p m d A B).1) rfl rfl 26 _ (((Blk.new W3 512 26 (fl 64 (fun _ _ => 0))).alloc (.cells (zb 512 (fl 64 (fun _ _ => 0))) 26))) Try.size26 ?_; try simp only [Act.put]) | (refine wpList_store_blk rfl 26 (.tmp 11) (.tmp 30) rfl _ 512 (fl 64 (dq p m d A B).2) rfl rfl 26 _ (((show Blk ((W3.alloc (.cells (zb 512 (fl 64 (fun _ _ => 0))) 26)).alloc (.cells (zb 512 (fl 64 (fun _ _ => 0))) 26)) (W3.heap.size + 1) 512 26 (fl 64 (fun _ _ => 0)) by have := Blk.new (W3.alloc (.cells (zb 512 (fl 64 (fun _ _ => 0))) 26)) 512 26 (fl 64 (fun _ _ => 0)); simpa using this).rowOther (by omega))) Try.size26 ?_; try simp only [Act.put]))
      have lt_B1 := B1.lt
      have lt_B3 := B3.lt
      have lt_B4 := B4.lt
      have lt_B5 := B5.lt
      have lt_B6 := B6.lt
      have lhb := hb.size
      obtain ⟨W4, hwo, hzQ⟩ : ∃ v : World, v = ((((W3.alloc (.cells (zb 512 (fl 64 (fun _ _ => 0))) 26)).alloc (.cells (zb 512 (fl 64 (fun _ _ => 0))) 26)).setRow (W3.heap.size) (zb 512 (fl 64 (dq p m d A B).1))).setRow (W3.heap.size + 1) (zb 512 (fl 64 (dq p m d A B).2))) ∧ Row v (w.heap.size + 1) 94 (fdC (p : Int) m).toArray ∧ Blk v (w.heap.size + 1 + 1 + 1) 512 26 (fl 64 (fun _ _ => 0)) ∧ Blk v (w.heap.size + 1 + 1 + 1 + 1) 512 26 (fl 64 (fun _ _ => 0)) ∧ Blk v (k1_6) 1024 170 (c2s A U) ∧ Blk v (k1_7) 1024 170 (c2s B Vv) ∧ Blk v (W3.heap.size) 512 26 (fl 64 (dq p m d A B).1) ∧ Blk v (W3.heap.size + 1) 512 26 (fl 64 (dq p m d A B).2) ∧ Below w.heap.size w v := ⟨_, rfl, ((((B1.alloc (.cells (zb 512 (fl 64 (fun _ _ => 0))) 26)).alloc (.cells (zb 512 (fl 64 (fun _ _ => 0))) 26)).rowOther (by omega)).rowOther (by omega)), ((((B3.alloc (.cells (zb 512 (fl 64 (fun _ _ => 0))) 26)).alloc (.cells (zb 512 (fl 64 (fun _ _ => 0))) 26)).rowOther (by omega)).rowOther (by omega)), ((((B4.alloc (.cells (zb 512 (fl 64 (fun _ _ => 0))) 26)).alloc (.cells (zb 512 (fl 64 (fun _ _ => 0))) 26)).rowOther (by omega)).rowOther (by omega)), ((((B5.alloc (.cells (zb 512 (fl 64 (fun _ _ => 0))) 26)).alloc (.cells (zb 512 (fl 64 (fun _ _ => 0))) 26)).rowOther (by omega)).rowOther (by omega)), ((((B6.alloc (.cells (zb 512 (fl 64 (fun _ _ => 0))) 26)).alloc (.cells (zb 512 (fl 64 (fun _ _ => 0))) 26)).rowOther (by omega)).rowOther (by omega)), ((((Blk.new W3 512 26 (fl 64 (fun _ _ => 0))).alloc (.cells (zb 512 (fl 64 (fun _ _ => 0))) 26)).row (fl 64 (dq p m d A B).1)).rowOther (by omega)), (((show Blk ((W3.alloc (.cells (zb 512 (fl 64 (fun _ _ => 0))) 26)).alloc (.cells (zb 512 (fl 64 (fun _ _ => 0))) 26)) (W3.heap.size + 1) 512 26 (fl 64 (fun _ _ => 0)) by have := Blk.new (W3.alloc (.cells (zb 512 (fl 64 (fun _ _ => 0))) 26)) 512 26 (fl 64 (fun _ _ => 0)); simpa using this).rowOther (by omega)).row (fl 64 (dq p m d A B).2)), (zr (zr ((hb.alloc (by have := hb.size; simp; omega) (.cells (zb 512 (fl 64 (fun _ _ => 0))) 26)).alloc (by have := hb.size; simp; omega) (.cells (zb 512 (fl 64 (fun _ _ => 0))) 26)) (by omega) _) (by omega) _)⟩
      rw [← hwo]
      clear hwo B1 B3 B4 B5 B6 hb
      obtain ⟨B1, B3, B4, B5, B6, B7, B8, hb⟩ := hzQ
      obtain ⟨N1, hNN⟩ : ∃ n : Nat, n = W3.heap.size := ⟨_, rfl⟩
      rw [← hNN] at lt_B1 lt_B3 lt_B4 lt_B5 lt_B6 lhb B7 B8 ⊢
      clear hNN
      have zN1_1 := lt_B1
      have zN1_3 := lt_B3
      have zN1_4 := lt_B4
      have zN1_5 := lt_B5
      have zN1_6 := lt_B6
      have zN1 := lhb
      clear lt_B1 lt_B3 lt_B4 lt_B5 lt_B6 lhb
      try simp only [Act.put, pA, pB, pC]
      have lt_B1 : (w.heap.size + 1) < W4.heap.size := B1.lt
      have lt_B3 : (w.heap.size + 1 + 1 + 1) < W4.heap.size := B3.lt
      have lt_B4 : (w.heap.size + 1 + 1 + 1 + 1) < W4.heap.size := B4.lt
      have lt_B5 : (k1_6) < W4.heap.size := B5.lt
      have lt_B6 : (k1_7) < W4.heap.size := B6.lt
      have lt_B7 : (N1) < W4.heap.size := B7.lt
      have lt_B8 : (N1 + 1) < W4.heap.size := B8.lt
      have hbase : w.heap.size ≤ W4.heap.size := hb.size
      refine zq Try.mixed (by kernel_rfl) (by kernel_rfl) (fun v => by (simp only [frL, Act.put, pA, pB, pC, Nat.reduceAdd, Nat.zero_add]; exact rfl))
       (fun L v W5 => Below w.heap.size w W5 ∧ Kx [k1_6, k1_7] W4 W5 ∧ (∃ g, Blk W5 (k1_6) 1024 170 (g)) ∧ (L 12 = false → Blk W5 (k1_6) 1024 170 (c2s A U)) ∧ (L 12 = true → Blk W5 (k1_6) 1024 170 (c2s B Vv)) ∧ (∃ g, Blk W5 (k1_7) 1024 170 (g)) ∧ (L 13 = false → Blk W5 (k1_7) 1024 170 (c2s B Vv)) ∧ (L 13 = true → Blk W5 (k1_7) 1024 170 (c2s (dq p m d A B).2 (skA p U (tmP p m d (dq p m d A B).1 Vv) (-1)))) ∧ VF L v [some (.agg (zb 1024 (c2s B Vv))), some (.agg (zb 512 (fl 64 (dq p m d A B).2))), some (.pointer (some ⟨k1_6, 512, none⟩)), some (.agg (zb 512 (fl 64 U))), some (.agg (fdC (p : Int) m).toArray), some (.agg (zb 512 (fl 64 (dq p m d A B).1))), some (.agg (fdC (p : Int) m).toArray), some (.pointer (some ⟨k1_7, 512, none⟩)), some (.agg (zb 512 (fl 64 Vv))), some (.agg (zb 512 (fl 64 (tmP p m d (dq p m d A B).1 Vv)))), some (.agg (zb 512 (fl 64 (skA p U (tmP p m d (dq p m d A B).1 Vv) (-1))))), some (.agg (zb 1024 (c2s (dq p m d A B).2 (skA p U (tmP p m d (dq p m d A B).1 Vv) (-1))))), none, none]) ?_ ?_ ?_
      · intro v hv0
        exact ⟨hb.drew, Kx.start _ _, ⟨_, B5.drew⟩, (fun _ => B5.drew), (fun h => by cases h), ⟨_, B6.drew⟩, (fun _ => B6.drew), (fun h => by cases h), VF.start⟩
      · refine (.cons rfl ?_ (.cons rfl ?_ (.cons rfl ?_ (.cons rfl ?_ (.cons rfl ?_ (.cons rfl ?_ (.cons rfl ?_ (.cons rfl ?_ (.cons rfl ?_ (.cons rfl ?_ (.cons rfl ?_ (.cons rfl ?_ (.cons rfl ?_ (.cons rfl ?_ (.nil _)))))))))))))))
        all_goals intro L v W5 hd hn ⟨hB, hX, x3, q3, n3, x4, q4, n4, V⟩ K hK
        · have s4 := q4 (by
           cases hL : L 13 with
           | false => rfl
           | true => exact absurd rfl (hn 13 _ rfl hL ⟨0, .phase⟩ (by simp) rfl))
          refine zlc s4 Try.underlying170 Try.size170 ?_
          exact hK _ _ _ rfl ⟨hB, hX, x3, q3, n3, x4, q4, n4, V.step 0 rfl⟩
        · refine wp_load_any 26 _ rfl _ rfl 512 26 _ (B8.kx hX (by simp <;> omega)) _ Try.underlying26 rfl Try.size26 ?_
          exact hK _ _ _ rfl ⟨hB, hX, x3, q3, n3, x4, q4, n4, V.step 1 rfl⟩
        · go_wp2_with fail
          exact hK _ (.pointer (some ⟨k1_6, 512, none⟩)) _ (by simp only [Act.put, pA, pB, pC ]) ⟨hB, hX, x3, q3, n3, x4, q4, n4, V.step 2 rfl⟩
        · have e2 := V.at (zdq hd 2 rfl) rfl
          have s3 := q3 (by
           cases hL : L 12 with
           | false => rfl
           | true => exact absurd rfl (hn 12 _ rfl hL ⟨3, .phase⟩ (by simp) rfl))
          refine wp_load_mid 26 _ rfl _ (512) e2 _ _ (s3.mid (by omega) (c2s_1 _ _)) Try.underlying26 rfl (by rw [zl]; exact Try.size26) ?_
          exact hK _ _ _ rfl ⟨hB, hX, x3, q3, n3, x4, q4, n4, V.step 3 rfl⟩
        · refine wp_load_rowv 94 _ rfl _ rfl 94 _ (B1.kx hX (by simp <;> omega)) _ Try.underlying94 rfl 65 Try.size94 (by simp [fdC_len]) ?_
          exact hK _ _ _ rfl ⟨hB, hX, x3, q3, n3, x4, q4, n4, V.step 4 rfl⟩
        · refine wp_load_any 26 _ rfl _ rfl 512 26 _ (B7.kx hX (by simp <;> omega)) _ Try.underlying26 rfl Try.size26 ?_
          exact hK _ _ _ rfl ⟨hB, hX, x3, q3, n3, x4, q4, n4, V.step 5 rfl⟩
        · refine wp_load_rowv 94 _ rfl _ rfl 94 _ (B1.kx hX (by simp <;> omega)) _ Try.underlying94 rfl 65 Try.size94 (by simp [fdC_len]) ?_
          exact hK _ _ _ rfl ⟨hB, hX, x3, q3, n3, x4, q4, n4, V.step 6 rfl⟩
        · go_wp2_with fail
          exact hK _ (.pointer (some ⟨k1_7, 512, none⟩)) _ (by simp only [Act.put, pA, pB, pC ]) ⟨hB, hX, x3, q3, n3, x4, q4, n4, V.step 7 rfl⟩
        · have e7 := V.at (zdq hd 7 rfl) rfl
          have s4 := q4 (by
           cases hL : L 13 with
           | false => rfl
           | true => exact absurd rfl (hn 13 _ rfl hL ⟨8, .phase⟩ (by simp) rfl))
          refine wp_load_mid 26 _ rfl _ (512) e7 _ _ (s4.mid (by omega) (c2s_1 _ _)) Try.underlying26 rfl (by rw [zl]; exact Try.size26) ?_
          exact hK _ _ _ rfl ⟨hB, hX, x3, q3, n3, x4, q4, n4, V.step 8 rfl⟩
        · have e5 := V.at (zdq hd 5 rfl) rfl
          have e6 := V.at (zdq hd 6 rfl) rfl
          have e8 := V.at (zdq hd 8 rfl) rfl
          go_wp2_with (go_at_call 87; refine (HK2.out _).mono ?_; rintro e wy ⟨rfl, hy⟩)
          exact hK _ (.agg (zb 512 (fl 64 (tmP p m d (dq p m d A B).1 Vv)))) _ (by simp only [Act.put, pA, pB, pC, e5, e6, e8]) ⟨hB.trans (hy.mono hB.size), hX.below hy, (let ⟨g, h⟩ := x3; ⟨g, h.zw hy⟩), (fun h => (q3 h).below hy (q3 h).lt), (fun h => (n3 h).below hy (n3 h).lt), (let ⟨g, h⟩ := x4; ⟨g, h.zw hy⟩), (fun h => (q4 h).below hy (q4 h).lt), (fun h => (n4 h).below hy (n4 h).lt), V.step 9 rfl⟩
        · have e3 := V.at (zdq hd 3 rfl) rfl
          have e4 := V.at (zdq hd 4 rfl) rfl
          have e9 := V.at (zdq hd 9 rfl) rfl
          go_wp2_with (go_at_call 188; refine (HK3.out _).mono ?_; rintro e wy ⟨rfl, hy⟩)
          exact hK _ (.agg (zb 512 (fl 64 (skA p U (tmP p m d (dq p m d A B).1 Vv) (-1))))) _ (by simp only [Act.put, pA, pB, pC, e3, e4, e9]) ⟨hB.trans (hy.mono hB.size), hX.below hy, (let ⟨g, h⟩ := x3; ⟨g, h.zw hy⟩), (fun h => (q3 h).below hy (q3 h).lt), (fun h => (n3 h).below hy (n3 h).lt), (let ⟨g, h⟩ := x4; ⟨g, h.zw hy⟩), (fun h => (q4 h).below hy (q4 h).lt), (fun h => (n4 h).below hy (n4 h).lt), V.step 10 rfl⟩
        · have e1 := V.at (zdq hd 1 rfl) rfl
          have e10 := V.at (zdq hd 10 rfl) rfl
          refine wp_build_of 170 _ rfl (zb 1024 (c2s (dq p m d A B).2 (skA p U (tmP p m d (dq p m d A B).1 Vv) (-1)))) (by rw [Array.toList_map]; show Try.prog.built 170 [(0, v 1), (1, v 10)] = some (zb 1024 (c2s (dq p m d A B).2 (skA p U (tmP p m d (dq p m d A B).1 Vv) (-1)))); rw [e1, e10]; exact built_sr1 _ _) ?_
          exact hK _ _ _ rfl ⟨hB, hX, x3, q3, n3, x4, q4, n4, V.step 11 rfl⟩
        · have e0 := V.at (zdq hd 0 rfl) rfl
          obtain ⟨gz, hk⟩ := x3
          refine zsb 170 _ _ rfl _ 1024 (c2s B Vv) rfl e0 170 gz hk Try.size170 ?_
          exact hK _ undef _ rfl ⟨zr hB (by omega) _, hX.row (by simp) _, ⟨_, hk.row _⟩, (fun h => absurd h (by simp [setL])), (fun _ => hk.row _), (let ⟨g, h⟩ := x4; ⟨g, (h).rowOther (by omega)⟩), (fun h => (q4 h).rowOther (by omega)), (fun h => (n4 h).rowOther (by omega)), V.skip 12 rfl⟩
        · have e11 := V.at (zdq hd 11 rfl) rfl
          obtain ⟨gz, hk⟩ := x4
          refine zsb 170 _ _ rfl _ 1024 (c2s (dq p m d A B).2 (skA p U (tmP p m d (dq p m d A B).1 Vv) (-1))) rfl e11 170 gz hk Try.size170 ?_
          exact hK _ undef _ rfl ⟨zr hB (by omega) _, hX.row (by simp) _, (let ⟨g, h⟩ := x3; ⟨g, (h).rowOther (by omega)⟩), (fun h => (q3 h).rowOther (by omega)), (fun h => (n3 h).rowOther (by omega)), ⟨_, hk.row _⟩, (fun h => absurd h (by simp [setL])), (fun _ => hk.row _), V.skip 13 rfl⟩
      · intro L v W5 hL ⟨hB, hX, x3, q3, n3, x4, q4, n4, V⟩
        have r3 := n3 (hL 12 (by decide))
        have r4 := n4 (hL 13 (by decide))
        have e0 := V.at (hL 0 (by decide)) rfl
        have e1 := V.at (hL 1 (by decide)) rfl
        have e2 := V.at (hL 2 (by decide)) rfl
        have e3 := V.at (hL 3 (by decide)) rfl
        have e4 := V.at (hL 4 (by decide)) rfl
        have e5 := V.at (hL 5 (by decide)) rfl
        have e6 := V.at (hL 6 (by decide)) rfl
        have e7 := V.at (hL 7 (by decide)) rfl
        have e8 := V.at (hL 8 (by decide)) rfl
        have e9 := V.at (hL 9 (by decide)) rfl
        have e10 := V.at (hL 10 (by decide)) rfl
        have e11 := V.at (hL 11 (by decide)) rfl
        clear hL x3 q3 n3 x4 q4 n4 V
        replace B1 := B1.kx hX (by simp <;> omega)
        replace B3 := B3.kx hX (by simp <;> omega)
        replace B4 := B4.kx hX (by simp <;> omega)
        replace B7 := B7.kx hX (by simp <;> omega)
        replace B8 := B8.kx hX (by simp <;> omega)
        clear hX
        simp only [Exit.then, e0, e1, e2, e3, e4, e5, e6, e7, e8, e9, e10, e11]
        clear e0 e1 e2 e3 e4 e5 e6 e7 e8 e9 e10 e11
        replace B5 := r3
        clear r3
        replace B6 := r4
        clear r4
        replace hb := hB
        clear hB
        clear hbase lt_B1 lt_B3 lt_B4 lt_B5 lt_B6 lt_B7 lt_B8
        go_wp2_with fail
        go_roundw
        case rel => exact ⟨fu, _, _, _, _, hI2, hb, B1, B3, B4, B5, B6⟩
        case measure => rw [skAt_c2s B6, skAt_c2s BF0.out]; have h1 := hM.out; omega
end Go.Proofs.Ytdlojnmggogbaaa
end
