/-
  What the rows of this claim rest on: arrays of bytes, walks of the functions, plain mathematics.
-/
import Derived.Test.YtoncepgcfifgbaaZf4
section
namespace Go.Proofs.Ytoncepgcfifgbaa
open Go Go.RowKit
set_option linter.unusedVariables false
set_option linter.unusedSimpArgs false
attribute [local irreducible] deg invN quoP resP prd bzD bzU bzW sqP ngP mkP okA monB dvN
/-- a discriminant -/
noncomputable def dcB (p : Int) (D : Nat → Nat) : Bool := okA p D && (!decide (p = 2) && (decide (deg D = 1 ∨ deg D = 3 ∨ deg D = 5) && decide (deg (bzD p.toNat D (dvN p.toNat D)) = 0)))
theorem dcB_1 {p : Int} {D : Nat → Nat} (h : okA p D = false) : dcB p D = false := by unfold dcB; rw [h]; rfl
theorem dcB_2 {p : Int} {D : Nat → Nat} (h : p = 2) : dcB p D = false := by unfold dcB; simp [h]
theorem dcB_3 {p : Int} {D : Nat → Nat} (h : ¬ (deg D = 1 ∨ deg D = 3 ∨ deg D = 5)) : dcB p D = false := by unfold dcB; rw [show decide (deg D = 1 ∨ deg D = 3 ∨ deg D = 5) = false from decide_eq_false h]; simp
theorem dcB_v {n : Nat} {D : Nat → Nat} (h : okA (n : Int) D = true) (h2 : ¬ (n : Int) = 2) (h3 : deg D = 1 ∨ deg D = 3 ∨ deg D = 5) : dcB (n : Int) D = decide (deg (bzD n D (dvN n D)) = 0) := by
 unfold dcB; rw [h, decide_eq_false h2, decide_eq_true h3, Int.toNat_natCast]; rfl
theorem dcB_out {p : Int} {D : Nat → Nat} (h : dcB p D = true) : ∃ n g : Nat, p = (n : Int) ∧ (n = 2 ∨ n = 3 ∨ n = 5 ∨ n = 7) ∧ (∀ k, k < 64 → D k < n) ∧ g ≤ 2 ∧ deg D = ((2 * g + 1 : Nat) : Int) := by
 unfold dcB at h
 simp only [Bool.and_eq_true, decide_eq_true_eq] at h
 obtain ⟨h1, _, h3, _⟩ := h
 obtain ⟨n, hn, hpr, hl⟩ := okA_nat h1
 rcases h3 with h3 | h3 | h3
 · exact ⟨n, 0, hn, hpr, hl, by omega, by omega⟩
 · exact ⟨n, 1, hn, hpr, hl, by omega, by omega⟩
 · exact ⟨n, 2, hn, hpr, hl, by omega, by omega⟩
/-- a form of a discriminant -/
noncomputable def fmB (p : Int) (D A B : Nat → Nat) : Bool := okA p A && (okA p B && (monB A && (decide (deg A ≤ 12) && (decide (deg B < deg A) && decide (deg (resP p.toNat (sqP p.toNat D B) A) < 0)))))
theorem fmB_1 {p : Int} {D A B : Nat → Nat} (h : okA p A = false) : fmB p D A B = false := by unfold fmB; rw [h]; rfl
theorem fmB_2 {p : Int} {D A B : Nat → Nat} (h : okA p B = false) : fmB p D A B = false := by unfold fmB; rw [h]; simp
theorem fmB_3 {p : Int} {D A B : Nat → Nat} (h : monB A = false) : fmB p D A B = false := by unfold fmB; rw [h]; simp
theorem fmB_4 {p : Int} {D A B : Nat → Nat} (h : ¬ deg A ≤ 12) : fmB p D A B = false := by unfold fmB; rw [decide_eq_false h]; simp
theorem fmB_5 {p : Int} {D A B : Nat → Nat} (h : ¬ deg B < deg A) : fmB p D A B = false := by unfold fmB; rw [decide_eq_false h]; simp
theorem fmB_v {n : Nat} {D A B : Nat → Nat} (h1 : okA (n : Int) A = true) (h2 : okA (n : Int) B = true) (h3 : monB A = true) (h4 : deg A ≤ 12) (h5 : deg B < deg A) : fmB (n : Int) D A B = decide (deg (resP n (sqP n D B) A) < 0) := by
 unfold fmB; rw [h1, h2, h3, decide_eq_true h4, decide_eq_true h5, Int.toNat_natCast]; rfl
theorem fmB_code {p : Int} {D A B : Nat → Nat} (h : codeL p [A, B] = 1) : fmB p D A B = false := by
 cases h2 : okA p A with
 | false => exact fmB_1 h2
 | true =>
  cases h3 : okA p B with
  | false => exact fmB_2 h3
  | true =>
   have : codeL p [A, B] = 0 := codeL_ok (okA_p h2) (fun j f hf => by
    match j, hf with
    | 0, hf => cases hf; exact h2
    | 1, hf => cases hf; exact h3)
   omega
theorem monB_at2 {A : Nat → Nat} (h : monB A = true) : ∃ d : Nat, mon A d := by
 unfold monB at h
 simp only [decide_eq_true_eq] at h
 exact ⟨(deg A).toNat, by omega, h.2⟩
theorem fmB_out {n : Nat} {D A B : Nat → Nat} (hpr : n = 2 ∨ n = 3 ∨ n = 5 ∨ n = 7) (h : fmB (n : Int) D A B = true) : fmI n D A B := by
 unfold fmB at h
 simp only [Bool.and_eq_true, decide_eq_true_eq, Int.toNat_natCast] at h
 obtain ⟨h1, h2, h3, h4, h5, h6⟩ := h
 have lA : ∀ k, k < 64 → A k < n := fun k hk => by have := okA_lt h1 hk; omega
 have lB : ∀ k, k < 64 → B k < n := fun k hk => by have := okA_lt h2 hk; omega
 obtain ⟨d, hd⟩ := monB_at2 h3
 refine ⟨lA, lB, ⟨d, hd, by have := hd.1; omega⟩, h5, ?_⟩
 exact (res_zero_iff hpr (fun k _ => sqP_ltI (by omega) k) lA (by rw [hd.1]; omega)).1 h6
/-- is A monic, of a degree of at most 12 -/
theorem mon12_1 {A : Nat → Nat} (h : eqN 64 A oneP = true) : monB A = true ∧ deg A ≤ 12 := by
 have e := deg_congr (eqN_iff.1 h)
 rw [deg_one] at e
 refine ⟨?_, by omega⟩
 unfold monB
 rw [e]
 have := eqN_iff.1 h 0 (by omega)
 simp [this, oneP]
theorem mon12_2 {A : Nat → Nat} (h : monUp 12 A = true) : monB A = true ∧ deg A ≤ 12 := by
 rw [monUp_B] at h
 simp only [Bool.and_eq_true, decide_eq_true_eq] at h
 exact ⟨h.1, h.2.2⟩
theorem mon12_3 {p : Int} {D A B : Nat → Nat} (h : eqN 64 A oneP = false) (h2 : monUp 12 A = false) : fmB p D A B = false := by
 cases h3 : monB A with
 | false => exact fmB_3 h3
 | true =>
  by_cases h4 : deg A ≤ 12
  · exfalso
    rw [monUp_B, h3] at h2
    simp only [Bool.true_and, decide_eq_false_iff_not] at h2
    obtain ⟨d, hd⟩ := monB_at2 h3
    have h5 : d = 0 := by have := hd.1; omega
    subst h5
    have h6 := one_of_mon0 hd
    have : eqN 64 A oneP = true := eqN_iff.2 (fun k hk => by
     have h7 := congrFun h6 k
     unfold lz oneS at h7
     rw [cut_in _ hk] at h7
     unfold oneP
     by_cases hk0 : k = 0
     · rw [if_pos hk0] at h7 ⊢; omega
     · rw [if_neg hk0] at h7 ⊢; omega)
    rw [this] at h; cases h
  · exact fmB_4 h4
/-- the code of a discriminant and forms -/
noncomputable def ckF (p : Int) (D : Nat → Nat) (Fs : List ((Nat → Nat) × (Nat → Nat))) : Int := if dcB p D = true ∧ (∀ F, F ∈ Fs → fmB p D F.1 F.2 = true) then 0 else 1
theorem ckF_d {p : Int} {D : Nat → Nat} {Fs : List ((Nat → Nat) × (Nat → Nat))} (h : dcB p D = false) : ckF p D Fs = 1 := if_neg (fun a => by rw [h] at a; exact absurd a.1 (by simp))
theorem ckF_no {p : Int} {D : Nat → Nat} {Fs : List ((Nat → Nat) × (Nat → Nat))} {F : (Nat → Nat) × (Nat → Nat)} {j : Nat} (hj : Fs[j]? = some F) (h : fmB p D F.1 F.2 = false) : ckF p D Fs = 1 := if_neg (fun a => by
 have := a.2 F (List.mem_of_getElem? hj); rw [h] at this; cases this)
theorem ckF_yes {p : Int} {D : Nat → Nat} {Fs : List ((Nat → Nat) × (Nat → Nat))} (h : dcB p D = true) (h2 : ∀ (i : Nat) (F : (Nat → Nat) × (Nat → Nat)), Fs[i]? = some F → fmB p D F.1 F.2 = true) : ckF p D Fs = 0 := if_pos ⟨h, fun F hF => by
 obtain ⟨i, hi, e⟩ := List.getElem_of_mem hF
 exact h2 i F (by rw [← e]; exact List.getElem?_eq_getElem hi)⟩
theorem ckF_two (p : Int) (D : Nat → Nat) (Fs : List ((Nat → Nat) × (Nat → Nat))) : ckF p D Fs = 0 ∨ ckF p D Fs = 1 := by unfold ckF; split <;> simp
theorem ckF_zero {p : Int} {D : Nat → Nat} {Fs : List ((Nat → Nat) × (Nat → Nat))} (h : ckF p D Fs = 0) : dcB p D = true ∧ ∀ F, F ∈ Fs → fmB p D F.1 F.2 = true := by
 unfold ckF at h
 by_cases a : dcB p D = true ∧ (∀ F, F ∈ Fs → fmB p D F.1 F.2 = true)
 · exact a
 · rw [if_neg a] at h; omega
attribute [irreducible] dcB fmB ckF
set_option maxRecDepth 100000 in
set_option maxHeartbeats 3200000 in
theorem impl_IsDiscriminant_any (p : Int) (D : Nat → Nat) (hD : byte D) (w : World) :
 Calls Try.prog 58 #[.int .i64 p, .agg (zb 64 D)] w fun e w' => e = .returned (.bool (dcB p D)) ∧ Below w.heap.size w w' := by
 have HOK := Lib.hid (fun W => IsPoly_any p D hD W)
 go_enter Try.func58, Try.ntmps58
 go_upto_region 1 with (fail)
 obtain ⟨W1, hwo⟩ : ∃ v : World, v = (w.alloc (.cells (zb 64 (D)) 23)) := ⟨_, rfl⟩
 have B0 : Blk W1 (w.heap.size) 64 23 (D) := by subst hwo; have := (Blk.new w 64 23 (D)); simpa using this
 have hb : Below w.heap.size w W1 := by subst hwo; exact ((Below.refl _ _).alloc (Nat.le_refl _) _)
 rw [← hwo]
 clear hwo
 by_cases hp2 : p = 2
 · subst hp2
   have HV := Lib.hid (dcB_2 (p := 2) (D := D) rfl)
   go_upto_region 2 with (fail)
   go_wp2_with fail
   go_ret
   exact ⟨by rw [HV.out]; rfl, hb⟩
 · have hne : (p == 2) = false := beq_eq_false_iff_ne.2 hp2
   cases ho : okA p D with
   | false =>
    have HV := Lib.hid (dcB_1 ho)
    go_upto_region 2 with (first | (refine zlg rfl 23 (.tmp 3) rfl _ rfl 64 23 _ (B0) _ Try.underlying23 rfl Try.size23 ?_) | (go_at_call 122; refine (HOK.out _).mono ?_; rintro e W2 ⟨rfl, hW2⟩; replace B0 := B0.zw hW2; replace hb := (hb).trans (hW2.mono (hb).size); rw [ho]))
    go_wp2_with fail
    go_ret
    exact ⟨by rw [HV.out]; rfl, hb⟩
   | true =>
    obtain ⟨n, rfl, hpr, lD⟩ := okA_nat ho
    go_upto_region 3 with (first | (refine zlg rfl 23 (.tmp 3) rfl _ rfl 64 23 _ (B0) _ Try.underlying23 rfl Try.size23 ?_) | (go_at_call 122; refine (HOK.out _).mono ?_; rintro e W2 ⟨rfl, hW2⟩; replace B0 := B0.zw hW2; replace hb := (hb).trans (hW2.mono (hb).size); rw [ho]))
    clear hne
    have HDG := Lib.hid (fun W => degree_any D W)
    by_cases hd : deg D = 1 ∨ deg D = 3 ∨ deg D = 5
    · obtain ⟨q, hq⟩ : ∃ q : Int, q = deg D := ⟨_, rfl⟩
      have HV := Lib.hid (dcB_v ho hp2 hd)
      have h0 : 0 ≤ deg D := by omega
      have HDV := Lib.hid (fun W => derivative_any n D W (by omega) (by omega) lD)
      have HUN := Lib.hid (fun W => isUnit_any n (dvN n D) D W hpr (fun k _ => dvN_lt (by omega) k) lD h0)
      rw [gcd_one hpr lD (fun k _ => dvN_lt (by omega) k) h0] at HUN
      obtain ⟨QQ, hQQ⟩ : ∃ QQ, QQ = deg (bzD n D (dvN n D)) := ⟨_, rfl⟩
      rw [← hQQ] at HV HUN
      clear hQQ h0 hpr lD hD hp2 ho hq
      cases hz : decide (QQ = 0) with
      | true =>
       rw [hz] at HV HUN
       rcases hd with hd | hd | hd
       · rw [hd] at HDG
         clear hd
         go_upto_region 7 with (first | (refine zla (.tmp 3) B0 Try.underlying23 Try.size23 ?_) | (go_at_call 92; refine (HDG.out _).mono ?_; rintro e W3 ⟨rfl, hW3⟩; replace B0 := B0.zw hW3; replace hb := (hb).trans (hW3.mono (hb).size)))
         refine zq Try.mixed (by kernel_rfl) (by kernel_rfl) (fun v => by (simp only [frL, Act.put, pA, pB, pC, Nat.reduceAdd, Nat.zero_add]; exact rfl))
          (fun L v W4 => Below W3.heap.size W3 W4 ∧ VF L v [some (.int .i64 (n : Int)), some (.int .i64 (n : Int)), some (.agg (zb 64 (D))), some (.agg (zb 64 (dvN n D))), some (.agg (zb 64 (D))), some (.bool true), some (.bool true)]) ?_ ?_ ?_
         · intro v hv0
           exact ⟨(Below.refl _ W3).drew, VF.start⟩
         · refine (.cons rfl ?_ (.cons rfl ?_ (.cons rfl ?_ (.cons rfl ?_ (.cons rfl ?_ (.cons rfl ?_ (.cons rfl ?_ (.nil _))))))))
           all_goals intro L v W4 hd hn ⟨hY, V⟩ K hK
           · go_wp2_with fail
             exact hK _ (.int .i64 (n : Int)) _ (by simp only [Act.put, pA, pB, pC ]) ⟨hY, V.step 0 rfl⟩
           · go_wp2_with fail
             exact hK _ (.int .i64 (n : Int)) _ (by simp only [Act.put, pA, pB, pC ]) ⟨hY, V.step 1 rfl⟩
           · refine zlc (B0.zw hY) Try.underlying23 Try.size23 ?_
             exact hK _ _ _ rfl ⟨hY, V.step 2 rfl⟩
           · have e1 := V.at (zdq hd 1 rfl) rfl
             have e2 := V.at (zdq hd 2 rfl) rfl
             go_wp2_with (go_at_call 87; refine (HDV.out _).mono ?_; rintro e wy ⟨rfl, hy⟩)
             exact hK _ (.agg (zb 64 (dvN n D))) _ (by simp only [Act.put, pA, pB, pC, e1, e2]) ⟨hY.trans (hy.mono hY.size), V.step 3 rfl⟩
           · refine zlc (B0.zw hY) Try.underlying23 Try.size23 ?_
             exact hK _ _ _ rfl ⟨hY, V.step 4 rfl⟩
           · have e0 := V.at (zdq hd 0 rfl) rfl
             have e3 := V.at (zdq hd 3 rfl) rfl
             have e4 := V.at (zdq hd 4 rfl) rfl
             go_wp2_with (go_at_call 119; refine (HUN.out _).mono ?_; rintro e wy ⟨rfl, hy⟩)
             exact hK _ (.bool true) _ (by simp only [Act.put, pA, pB, pC, e0, e3, e4]) ⟨hY.trans (hy.mono hY.size), V.step 5 rfl⟩
           · have e5 := V.at (zdq hd 5 rfl) rfl
             go_wp2_with fail
             exact hK _ (.bool true) _ (by simp only [Act.put, pA, pB, pC, e5]) ⟨hY, V.step 6 rfl⟩
         · intro L v W4 hL ⟨hY, V⟩
           have e0 := V.at (hL 0 (by decide)) rfl
           have e1 := V.at (hL 1 (by decide)) rfl
           have e2 := V.at (hL 2 (by decide)) rfl
           have e3 := V.at (hL 3 (by decide)) rfl
           have e4 := V.at (hL 4 (by decide)) rfl
           have e5 := V.at (hL 5 (by decide)) rfl
           have e6 := V.at (hL 6 (by decide)) rfl
           clear hL V
           replace B0 := B0.zw hY
           replace hb := hb.trans (hY.mono hb.size)
           clear hY
           simp only [Exit.then, e0, e1, e2, e3, e4, e5, e6]
           clear e0 e1 e2 e3 e4 e5 e6
           go_wp2_with fail
           go_ret
           exact ⟨by rw [HV.out]; rfl, hb⟩
       · rw [hd] at HDG
         clear hd
         go_upto_region 7 with (first | (refine zla (.tmp 3) B0 Try.underlying23 Try.size23 ?_) | (go_at_call 92; refine (HDG.out _).mono ?_; rintro e W3 ⟨rfl, hW3⟩; replace B0 := B0.zw hW3; replace hb := (hb).trans (hW3.mono (hb).size)))
         refine zq Try.mixed (by kernel_rfl) (by kernel_rfl) (fun v => by (simp only [frL, Act.put, pA, pB, pC, Nat.reduceAdd, Nat.zero_add]; exact rfl))
          (fun L v W4 => Below W3.heap.size W3 W4 ∧ VF L v [some (.int .i64 (n : Int)), some (.int .i64 (n : Int)), some (.agg (zb 64 (D))), some (.agg (zb 64 (dvN n D))), some (.agg (zb 64 (D))), some (.bool true), some (.bool true)]) ?_ ?_ ?_
         · intro v hv0
           exact ⟨(Below.refl _ W3).drew, VF.start⟩
         · refine (.cons rfl ?_ (.cons rfl ?_ (.cons rfl ?_ (.cons rfl ?_ (.cons rfl ?_ (.cons rfl ?_ (.cons rfl ?_ (.nil _))))))))
           all_goals intro L v W4 hd hn ⟨hY, V⟩ K hK
           · go_wp2_with fail
             exact hK _ (.int .i64 (n : Int)) _ (by simp only [Act.put, pA, pB, pC ]) ⟨hY, V.step 0 rfl⟩
           · go_wp2_with fail
             exact hK _ (.int .i64 (n : Int)) _ (by simp only [Act.put, pA, pB, pC ]) ⟨hY, V.step 1 rfl⟩
           · refine zlc (B0.zw hY) Try.underlying23 Try.size23 ?_
             exact hK _ _ _ rfl ⟨hY, V.step 2 rfl⟩
           · have e1 := V.at (zdq hd 1 rfl) rfl
             have e2 := V.at (zdq hd 2 rfl) rfl
             go_wp2_with (go_at_call 87; refine (HDV.out _).mono ?_; rintro e wy ⟨rfl, hy⟩)
             exact hK _ (.agg (zb 64 (dvN n D))) _ (by simp only [Act.put, pA, pB, pC, e1, e2]) ⟨hY.trans (hy.mono hY.size), V.step 3 rfl⟩
           · refine zlc (B0.zw hY) Try.underlying23 Try.size23 ?_
             exact hK _ _ _ rfl ⟨hY, V.step 4 rfl⟩
           · have e0 := V.at (zdq hd 0 rfl) rfl
             have e3 := V.at (zdq hd 3 rfl) rfl
             have e4 := V.at (zdq hd 4 rfl) rfl
             go_wp2_with (go_at_call 119; refine (HUN.out _).mono ?_; rintro e wy ⟨rfl, hy⟩)
             exact hK _ (.bool true) _ (by simp only [Act.put, pA, pB, pC, e0, e3, e4]) ⟨hY.trans (hy.mono hY.size), V.step 5 rfl⟩
           · have e5 := V.at (zdq hd 5 rfl) rfl
             go_wp2_with fail
             exact hK _ (.bool true) _ (by simp only [Act.put, pA, pB, pC, e5]) ⟨hY, V.step 6 rfl⟩
         · intro L v W4 hL ⟨hY, V⟩
           have e0 := V.at (hL 0 (by decide)) rfl
           have e1 := V.at (hL 1 (by decide)) rfl
           have e2 := V.at (hL 2 (by decide)) rfl
           have e3 := V.at (hL 3 (by decide)) rfl
           have e4 := V.at (hL 4 (by decide)) rfl
           have e5 := V.at (hL 5 (by decide)) rfl
           have e6 := V.at (hL 6 (by decide)) rfl
           clear hL V
           replace B0 := B0.zw hY
           replace hb := hb.trans (hY.mono hb.size)
           clear hY
           simp only [Exit.then, e0, e1, e2, e3, e4, e5, e6]
           clear e0 e1 e2 e3 e4 e5 e6
           go_wp2_with fail
           go_ret
           exact ⟨by rw [HV.out]; rfl, hb⟩
       · rw [hd] at HDG
         clear hd
         go_upto_region 7 with (first | (refine zla (.tmp 3) B0 Try.underlying23 Try.size23 ?_) | (go_at_call 92; refine (HDG.out _).mono ?_; rintro e W3 ⟨rfl, hW3⟩; replace B0 := B0.zw hW3; replace hb := (hb).trans (hW3.mono (hb).size)))
         refine zq Try.mixed (by kernel_rfl) (by kernel_rfl) (fun v => by (simp only [frL, Act.put, pA, pB, pC, Nat.reduceAdd, Nat.zero_add]; exact rfl))
          (fun L v W4 => Below W3.heap.size W3 W4 ∧ VF L v [some (.int .i64 (n : Int)), some (.int .i64 (n : Int)), some (.agg (zb 64 (D))), some (.agg (zb 64 (dvN n D))), some (.agg (zb 64 (D))), some (.bool true), some (.bool true)]) ?_ ?_ ?_
         · intro v hv0
           exact ⟨(Below.refl _ W3).drew, VF.start⟩
         · refine (.cons rfl ?_ (.cons rfl ?_ (.cons rfl ?_ (.cons rfl ?_ (.cons rfl ?_ (.cons rfl ?_ (.cons rfl ?_ (.nil _))))))))
           all_goals intro L v W4 hd hn ⟨hY, V⟩ K hK
           · go_wp2_with fail
             exact hK _ (.int .i64 (n : Int)) _ (by simp only [Act.put, pA, pB, pC ]) ⟨hY, V.step 0 rfl⟩
           · go_wp2_with fail
             exact hK _ (.int .i64 (n : Int)) _ (by simp only [Act.put, pA, pB, pC ]) ⟨hY, V.step 1 rfl⟩
           · refine zlc (B0.zw hY) Try.underlying23 Try.size23 ?_
             exact hK _ _ _ rfl ⟨hY, V.step 2 rfl⟩
           · have e1 := V.at (zdq hd 1 rfl) rfl
             have e2 := V.at (zdq hd 2 rfl) rfl
             go_wp2_with (go_at_call 87; refine (HDV.out _).mono ?_; rintro e wy ⟨rfl, hy⟩)
             exact hK _ (.agg (zb 64 (dvN n D))) _ (by simp only [Act.put, pA, pB, pC, e1, e2]) ⟨hY.trans (hy.mono hY.size), V.step 3 rfl⟩
           · refine zlc (B0.zw hY) Try.underlying23 Try.size23 ?_
             exact hK _ _ _ rfl ⟨hY, V.step 4 rfl⟩
           · have e0 := V.at (zdq hd 0 rfl) rfl
             have e3 := V.at (zdq hd 3 rfl) rfl
             have e4 := V.at (zdq hd 4 rfl) rfl
             go_wp2_with (go_at_call 119; refine (HUN.out _).mono ?_; rintro e wy ⟨rfl, hy⟩)
             exact hK _ (.bool true) _ (by simp only [Act.put, pA, pB, pC, e0, e3, e4]) ⟨hY.trans (hy.mono hY.size), V.step 5 rfl⟩
           · have e5 := V.at (zdq hd 5 rfl) rfl
             go_wp2_with fail
             exact hK _ (.bool true) _ (by simp only [Act.put, pA, pB, pC, e5]) ⟨hY, V.step 6 rfl⟩
         · intro L v W4 hL ⟨hY, V⟩
           have e0 := V.at (hL 0 (by decide)) rfl
           have e1 := V.at (hL 1 (by decide)) rfl
           have e2 := V.at (hL 2 (by decide)) rfl
           have e3 := V.at (hL 3 (by decide)) rfl
           have e4 := V.at (hL 4 (by decide)) rfl
           have e5 := V.at (hL 5 (by decide)) rfl
           have e6 := V.at (hL 6 (by decide)) rfl
           clear hL V
           replace B0 := B0.zw hY
           replace hb := hb.trans (hY.mono hb.size)
           clear hY
           simp only [Exit.then, e0, e1, e2, e3, e4, e5, e6]
           clear e0 e1 e2 e3 e4 e5 e6
           go_wp2_with fail
           go_ret
           exact ⟨by rw [HV.out]; rfl, hb⟩
      | false =>
       rw [hz] at HV HUN
       rcases hd with hd | hd | hd
       · rw [hd] at HDG
         clear hd
         go_upto_region 7 with (first | (refine zla (.tmp 3) B0 Try.underlying23 Try.size23 ?_) | (go_at_call 92; refine (HDG.out _).mono ?_; rintro e W3 ⟨rfl, hW3⟩; replace B0 := B0.zw hW3; replace hb := (hb).trans (hW3.mono (hb).size)))
         refine zq Try.mixed (by kernel_rfl) (by kernel_rfl) (fun v => by (simp only [frL, Act.put, pA, pB, pC, Nat.reduceAdd, Nat.zero_add]; exact rfl))
          (fun L v W4 => Below W3.heap.size W3 W4 ∧ VF L v [some (.int .i64 (n : Int)), some (.int .i64 (n : Int)), some (.agg (zb 64 (D))), some (.agg (zb 64 (dvN n D))), some (.agg (zb 64 (D))), some (.bool false), some (.bool false)]) ?_ ?_ ?_
         · intro v hv0
           exact ⟨(Below.refl _ W3).drew, VF.start⟩
         · refine (.cons rfl ?_ (.cons rfl ?_ (.cons rfl ?_ (.cons rfl ?_ (.cons rfl ?_ (.cons rfl ?_ (.cons rfl ?_ (.nil _))))))))
           all_goals intro L v W4 hd hn ⟨hY, V⟩ K hK
           · go_wp2_with fail
             exact hK _ (.int .i64 (n : Int)) _ (by simp only [Act.put, pA, pB, pC ]) ⟨hY, V.step 0 rfl⟩
           · go_wp2_with fail
             exact hK _ (.int .i64 (n : Int)) _ (by simp only [Act.put, pA, pB, pC ]) ⟨hY, V.step 1 rfl⟩
           · refine zlc (B0.zw hY) Try.underlying23 Try.size23 ?_
             exact hK _ _ _ rfl ⟨hY, V.step 2 rfl⟩
           · have e1 := V.at (zdq hd 1 rfl) rfl
             have e2 := V.at (zdq hd 2 rfl) rfl
             go_wp2_with (go_at_call 87; refine (HDV.out _).mono ?_; rintro e wy ⟨rfl, hy⟩)
             exact hK _ (.agg (zb 64 (dvN n D))) _ (by simp only [Act.put, pA, pB, pC, e1, e2]) ⟨hY.trans (hy.mono hY.size), V.step 3 rfl⟩
           · refine zlc (B0.zw hY) Try.underlying23 Try.size23 ?_
             exact hK _ _ _ rfl ⟨hY, V.step 4 rfl⟩
           · have e0 := V.at (zdq hd 0 rfl) rfl
             have e3 := V.at (zdq hd 3 rfl) rfl
             have e4 := V.at (zdq hd 4 rfl) rfl
             go_wp2_with (go_at_call 119; refine (HUN.out _).mono ?_; rintro e wy ⟨rfl, hy⟩)
             exact hK _ (.bool false) _ (by simp only [Act.put, pA, pB, pC, e0, e3, e4]) ⟨hY.trans (hy.mono hY.size), V.step 5 rfl⟩
           · have e5 := V.at (zdq hd 5 rfl) rfl
             go_wp2_with fail
             exact hK _ (.bool false) _ (by simp only [Act.put, pA, pB, pC, e5]) ⟨hY, V.step 6 rfl⟩
         · intro L v W4 hL ⟨hY, V⟩
           have e0 := V.at (hL 0 (by decide)) rfl
           have e1 := V.at (hL 1 (by decide)) rfl
           have e2 := V.at (hL 2 (by decide)) rfl
           have e3 := V.at (hL 3 (by decide)) rfl
           have e4 := V.at (hL 4 (by decide)) rfl
           have e5 := V.at (hL 5 (by decide)) rfl
           have e6 := V.at (hL 6 (by decide)) rfl
           clear hL V
           replace B0 := B0.zw hY
           replace hb := hb.trans (hY.mono hb.size)
           clear hY
           simp only [Exit.then, e0, e1, e2, e3, e4, e5, e6]
           clear e0 e1 e2 e3 e4 e5 e6
           go_wp2_with fail
           go_ret
           exact ⟨by rw [HV.out]; rfl, hb⟩
       · rw [hd] at HDG
         clear hd
         go_upto_region 7 with (first | (refine zla (.tmp 3) B0 Try.underlying23 Try.size23 ?_) | (go_at_call 92; refine (HDG.out _).mono ?_; rintro e W3 ⟨rfl, hW3⟩; replace B0 := B0.zw hW3; replace hb := (hb).trans (hW3.mono (hb).size)))
         refine zq Try.mixed (by kernel_rfl) (by kernel_rfl) (fun v => by (simp only [frL, Act.put, pA, pB, pC, Nat.reduceAdd, Nat.zero_add]; exact rfl))
          (fun L v W4 => Below W3.heap.size W3 W4 ∧ VF L v [some (.int .i64 (n : Int)), some (.int .i64 (n : Int)), some (.agg (zb 64 (D))), some (.agg (zb 64 (dvN n D))), some (.agg (zb 64 (D))), some (.bool false), some (.bool false)]) ?_ ?_ ?_
         · intro v hv0
           exact ⟨(Below.refl _ W3).drew, VF.start⟩
         · refine (.cons rfl ?_ (.cons rfl ?_ (.cons rfl ?_ (.cons rfl ?_ (.cons rfl ?_ (.cons rfl ?_ (.cons rfl ?_ (.nil _))))))))
           all_goals intro L v W4 hd hn ⟨hY, V⟩ K hK
           · go_wp2_with fail
             exact hK _ (.int .i64 (n : Int)) _ (by simp only [Act.put, pA, pB, pC ]) ⟨hY, V.step 0 rfl⟩
           · go_wp2_with fail
             exact hK _ (.int .i64 (n : Int)) _ (by simp only [Act.put, pA, pB, pC ]) ⟨hY, V.step 1 rfl⟩
           · refine zlc (B0.zw hY) Try.underlying23 Try.size23 ?_
             exact hK _ _ _ rfl ⟨hY, V.step 2 rfl⟩
           · have e1 := V.at (zdq hd 1 rfl) rfl
             have e2 := V.at (zdq hd 2 rfl) rfl
             go_wp2_with (go_at_call 87; refine (HDV.out _).mono ?_; rintro e wy ⟨rfl, hy⟩)
             exact hK _ (.agg (zb 64 (dvN n D))) _ (by simp only [Act.put, pA, pB, pC, e1, e2]) ⟨hY.trans (hy.mono hY.size), V.step 3 rfl⟩
           · refine zlc (B0.zw hY) Try.underlying23 Try.size23 ?_
             exact hK _ _ _ rfl ⟨hY, V.step 4 rfl⟩
           · have e0 := V.at (zdq hd 0 rfl) rfl
             have e3 := V.at (zdq hd 3 rfl) rfl
             have e4 := V.at (zdq hd 4 rfl) rfl
             go_wp2_with (go_at_call 119; refine (HUN.out _).mono ?_; rintro e wy ⟨rfl, hy⟩)
             exact hK _ (.bool false) _ (by simp only [Act.put, pA, pB, pC, e0, e3, e4]) ⟨hY.trans (hy.mono hY.size), V.step 5 rfl⟩
           · have e5 := V.at (zdq hd 5 rfl) rfl
             go_wp2_with fail
             exact hK _ (.bool false) _ (by simp only [Act.put, pA, pB, pC, e5]) ⟨hY, V.step 6 rfl⟩
         · intro L v W4 hL ⟨hY, V⟩
           have e0 := V.at (hL 0 (by decide)) rfl
           have e1 := V.at (hL 1 (by decide)) rfl
           have e2 := V.at (hL 2 (by decide)) rfl
           have e3 := V.at (hL 3 (by decide)) rfl
           have e4 := V.at (hL 4 (by decide)) rfl
           have e5 := V.at (hL 5 (by decide)) rfl
           have e6 := V.at (hL 6 (by decide)) rfl
           clear hL V
           replace B0 := B0.zw hY
           replace hb := hb.trans (hY.mono hb.size)
           clear hY
           simp only [Exit.then, e0, e1, e2, e3, e4, e5, e6]
           clear e0 e1 e2 e3 e4 e5 e6
           go_wp2_with fail
           go_ret
           exact ⟨by rw [HV.out]; rfl, hb⟩
       · rw [hd] at HDG
         clear hd
         go_upto_region 7 with (first | (refine zla (.tmp 3) B0 Try.underlying23 Try.size23 ?_) | (go_at_call 92; refine (HDG.out _).mono ?_; rintro e W3 ⟨rfl, hW3⟩; replace B0 := B0.zw hW3; replace hb := (hb).trans (hW3.mono (hb).size)))
         refine zq Try.mixed (by kernel_rfl) (by kernel_rfl) (fun v => by (simp only [frL, Act.put, pA, pB, pC, Nat.reduceAdd, Nat.zero_add]; exact rfl))
          (fun L v W4 => Below W3.heap.size W3 W4 ∧ VF L v [some (.int .i64 (n : Int)), some (.int .i64 (n : Int)), some (.agg (zb 64 (D))), some (.agg (zb 64 (dvN n D))), some (.agg (zb 64 (D))), some (.bool false), some (.bool false)]) ?_ ?_ ?_
         · intro v hv0
           exact ⟨(Below.refl _ W3).drew, VF.start⟩
         · refine (.cons rfl ?_ (.cons rfl ?_ (.cons rfl ?_ (.cons rfl ?_ (.cons rfl ?_ (.cons rfl ?_ (.cons rfl ?_ (.nil _))))))))
           all_goals intro L v W4 hd hn ⟨hY, V⟩ K hK
           · go_wp2_with fail
             exact hK _ (.int .i64 (n : Int)) _ (by simp only [Act.put, pA, pB, pC ]) ⟨hY, V.step 0 rfl⟩
           · go_wp2_with fail
             exact hK _ (.int .i64 (n : Int)) _ (by simp only [Act.put, pA, pB, pC ]) ⟨hY, V.step 1 rfl⟩
           · refine zlc (B0.zw hY) Try.underlying23 Try.size23 ?_
             exact hK _ _ _ rfl ⟨hY, V.step 2 rfl⟩
           · have e1 := V.at (zdq hd 1 rfl) rfl
             have e2 := V.at (zdq hd 2 rfl) rfl
             go_wp2_with (go_at_call 87; refine (HDV.out _).mono ?_; rintro e wy ⟨rfl, hy⟩)
             exact hK _ (.agg (zb 64 (dvN n D))) _ (by simp only [Act.put, pA, pB, pC, e1, e2]) ⟨hY.trans (hy.mono hY.size), V.step 3 rfl⟩
           · refine zlc (B0.zw hY) Try.underlying23 Try.size23 ?_
             exact hK _ _ _ rfl ⟨hY, V.step 4 rfl⟩
           · have e0 := V.at (zdq hd 0 rfl) rfl
             have e3 := V.at (zdq hd 3 rfl) rfl
             have e4 := V.at (zdq hd 4 rfl) rfl
             go_wp2_with (go_at_call 119; refine (HUN.out _).mono ?_; rintro e wy ⟨rfl, hy⟩)
             exact hK _ (.bool false) _ (by simp only [Act.put, pA, pB, pC, e0, e3, e4]) ⟨hY.trans (hy.mono hY.size), V.step 5 rfl⟩
           · have e5 := V.at (zdq hd 5 rfl) rfl
             go_wp2_with fail
             exact hK _ (.bool false) _ (by simp only [Act.put, pA, pB, pC, e5]) ⟨hY, V.step 6 rfl⟩
         · intro L v W4 hL ⟨hY, V⟩
           have e0 := V.at (hL 0 (by decide)) rfl
           have e1 := V.at (hL 1 (by decide)) rfl
           have e2 := V.at (hL 2 (by decide)) rfl
           have e3 := V.at (hL 3 (by decide)) rfl
           have e4 := V.at (hL 4 (by decide)) rfl
           have e5 := V.at (hL 5 (by decide)) rfl
           have e6 := V.at (hL 6 (by decide)) rfl
           clear hL V
           replace B0 := B0.zw hY
           replace hb := hb.trans (hY.mono hb.size)
           clear hY
           simp only [Exit.then, e0, e1, e2, e3, e4, e5, e6]
           clear e0 e1 e2 e3 e4 e5 e6
           go_wp2_with fail
           go_ret
           exact ⟨by rw [HV.out]; rfl, hb⟩
    · have HV := Lib.hid (dcB_3 (p := (n : Int)) hd)
      have d1 : ¬ deg D = 1 := fun h => hd (.inl h)
      have d3 : ¬ deg D = 3 := fun h => hd (.inr (.inl h))
      have d5 : ¬ deg D = 5 := fun h => hd (.inr (.inr h))
      have b1 : (deg D == 1) = false := beq_eq_false_iff_ne.2 d1
      have b3 : (deg D == 3) = false := beq_eq_false_iff_ne.2 d3
      have b5 : (deg D == 5) = false := beq_eq_false_iff_ne.2 d5
      have c1 : (deg D != 1) = true := bne_iff_ne.2 d1
      have c3 : (deg D != 3) = true := bne_iff_ne.2 d3
      have c5 : (deg D != 5) = true := bne_iff_ne.2 d5
      clear hd
      go_upto_region 8 with (first | (refine zla (.tmp 3) B0 Try.underlying23 Try.size23 ?_) | (go_at_call 92; refine (HDG.out _).mono ?_; rintro e W3 ⟨rfl, hW3⟩; replace B0 := B0.zw hW3; replace hb := (hb).trans (hW3.mono (hb).size)))
      go_wp2_with fail
      go_ret
      exact ⟨by rw [HV.out]; rfl, hb⟩
set_option maxRecDepth 100000 in
set_option maxHeartbeats 3200000 in
theorem l07Is_any (p : Int) (D : Nat → Nat) (hD : byte D) (w : World) :
 Calls Try.prog 124 #[.int .i64 p, .agg (zb 64 D)] w fun e w' => e = .returned (.bool (dcB p D)) ∧ Below w.heap.size w w' := by
 have HOK := Lib.hid (fun W => l01Is_any p D hD W)
 go_enter Try.func124, Try.ntmps124
 go_upto_region 1 with (fail)
 obtain ⟨W1, hwo⟩ : ∃ v : World, v = (w.alloc (.cells (zb 64 (D)) 23)) := ⟨_, rfl⟩
 have B0 : Blk W1 (w.heap.size) 64 23 (D) := by subst hwo; have := (Blk.new w 64 23 (D)); simpa using this
 have hb : Below w.heap.size w W1 := by subst hwo; exact ((Below.refl _ _).alloc (Nat.le_refl _) _)
 rw [← hwo]
 clear hwo
 by_cases hp2 : p = 2
 · subst hp2
   have HV := Lib.hid (dcB_2 (p := 2) (D := D) rfl)
   cases ho : okA (2 : Int) D with
   | false =>
    go_upto_region 2 with (first | (refine zla (.tmp 3) B0 Try.underlying23 Try.size23 ?_) | (go_at_call 144; refine (HOK.out _).mono ?_; rintro e W2 ⟨rfl, hW2⟩; replace B0 := B0.zw hW2; replace hb := (hb).trans (hW2.mono (hb).size); rw [ho]))
    go_wp2_with fail
    go_ret
    exact ⟨by rw [HV.out]; rfl, hb⟩
   | true =>
    go_upto_region 2 with (first | (refine zla (.tmp 3) B0 Try.underlying23 Try.size23 ?_) | (go_at_call 144; refine (HOK.out _).mono ?_; rintro e W2 ⟨rfl, hW2⟩; replace B0 := B0.zw hW2; replace hb := (hb).trans (hW2.mono (hb).size); rw [ho]))
    go_wp2_with fail
    go_ret
    exact ⟨by rw [HV.out]; rfl, hb⟩
 · have hne : (p == 2) = false := beq_eq_false_iff_ne.2 hp2
   cases ho : okA p D with
   | false =>
    have HV := Lib.hid (dcB_1 ho)
    go_upto_region 2 with (first | (refine zla (.tmp 3) B0 Try.underlying23 Try.size23 ?_) | (go_at_call 144; refine (HOK.out _).mono ?_; rintro e W2 ⟨rfl, hW2⟩; replace B0 := B0.zw hW2; replace hb := (hb).trans (hW2.mono (hb).size); rw [ho]))
    go_wp2_with fail
    go_ret
    exact ⟨by rw [HV.out]; rfl, hb⟩
   | true =>
    obtain ⟨n, rfl, hpr, lD⟩ := okA_nat ho
    go_upto_region 3 with (first | (refine zla (.tmp 3) B0 Try.underlying23 Try.size23 ?_) | (go_at_call 144; refine (HOK.out _).mono ?_; rintro e W2 ⟨rfl, hW2⟩; replace B0 := B0.zw hW2; replace hb := (hb).trans (hW2.mono (hb).size); rw [ho]))
    clear hne
    have HDG := Lib.hid (fun W => l01Deg_any D W)
    by_cases hd : deg D = 1 ∨ deg D = 3 ∨ deg D = 5
    · obtain ⟨q, hq⟩ : ∃ q : Int, q = deg D := ⟨_, rfl⟩
      have HV := Lib.hid (dcB_v ho hp2 hd)
      have h0 : 0 ≤ deg D := by omega
      have HDV := Lib.hid (show ∀ W, Calls Try.prog 25 #[.int .i64 (n : Int), .agg (zb 64 D)] W fun e w' => e = .returned (.tuple #[.agg (zb 64 (dvN n D)), .int .i64 0]) ∧ Below W.heap.size W w' from fun W => by
       have := spec_DerivativeOf_any (n : Int) D hD W
       rw [show dvV (n : Int) D = (dvN n D, 0) from if_pos (codeL_ok (okA_p ho) (fun j f hf => by
        match j, hf with
        | 0, hf => cases hf; exact ho))] at this
       exact this)
      have HGC := Lib.hid (fun W => l01Gcd_any n D (dvN n D) W hpr lD (fun k _ => dvN_lt (by omega) k) (fun h => by omega))
      have HDQ := Lib.hid (fun W => l01Deg_any (bzD n D (dvN n D)) W)
      obtain ⟨QQ, hQQ⟩ : ∃ QQ, QQ = deg (bzD n D (dvN n D)) := ⟨_, rfl⟩
      rw [← hQQ] at HV HDQ
      clear hQQ h0 hpr lD hD hp2 ho hq
      cases hz : decide (QQ = 0) with
      | true =>
       rw [hz] at HV
       simp only [decide_eq_true_eq, decide_eq_false_iff_not] at hz
       subst hz
       rcases hd with hd | hd | hd
       · rw [hd] at HDG
         clear hd
         go_upto_region 6 with (first | (refine zla (.tmp 3) B0 Try.underlying23 Try.size23 ?_) | (go_at_call 88; refine (HDG.out _).mono ?_; rintro e W3 ⟨rfl, hW3⟩; replace B0 := B0.zw hW3; replace hb := (hb).trans (hW3.mono (hb).size)))
         have lt_B0 := B0.lt
         go_upto_region 7 with (first | rw [← z64] | (refine zla (.tmp 3) B0 Try.underlying23 Try.size23 ?_) | (go_at_call 25; refine (HDV.out _).mono ?_; rintro e W4 ⟨rfl, hW4⟩; replace B0 := B0.zw hW4; replace hb := (hb).trans (hW4.mono (hb).size)) | (refine wpList_store_blk rfl 23 (.tmp 6) (.tmp 32) rfl _ 64 (dvN n D) rfl rfl 23 _ ((Blk.new W4 64 23 (fun _ => 0))) Try.size23 ?_; try simp only [Act.put]; go_upto_region 7 with (fail)))
         have lt_B0 := B0.lt
         have lhb := hb.size
         obtain ⟨W5, hwo, hzQ⟩ : ∃ v : World, v = ((W4.alloc (.cells (zb 64 (fun _ => 0)) 23)).setRow (W4.heap.size) (zb 64 (dvN n D))) ∧ Blk v (w.heap.size) 64 23 (D) ∧ Blk v (W4.heap.size) 64 23 (dvN n D) ∧ Below w.heap.size w v := ⟨_, rfl, ((B0.alloc (.cells (zb 64 (fun _ => 0)) 23)).rowOther (by omega)), ((Blk.new W4 64 23 (fun _ => 0)).row (dvN n D)), (zr (hb.alloc (by have := hb.size; simp; omega) (.cells (zb 64 (fun _ => 0)) 23)) (by omega) _)⟩
         rw [← hwo]
         clear hwo B0 hb
         obtain ⟨B0, B1, hb⟩ := hzQ
         obtain ⟨N1, hNN⟩ : ∃ n : Nat, n = W4.heap.size := ⟨_, rfl⟩
         rw [← hNN] at lt_B0 lhb B1 ⊢
         clear hNN
         have zN1_0 := lt_B0
         have zN1 := lhb
         clear lt_B0 lhb
         try simp only [Act.put, pA, pB, pC]
         go_wp2_with (first | (refine zla (.tmp 3) B0 Try.underlying23 Try.size23 ?_) | (refine zla (.tmp 6) B1 Try.underlying23 Try.size23 ?_) | (go_at_call 152; refine (HGC.out _).mono ?_; rintro e W6 ⟨rfl, hW6⟩; replace B0 := B0.zw hW6; replace B1 := B1.zw hW6; replace hb := (hb).trans (hW6.mono (hb).size)) | (go_at_call 88; refine (HDQ.out _).mono ?_; rintro e W7 ⟨rfl, hW7⟩; replace B0 := B0.zw hW7; replace B1 := B1.zw hW7; replace hb := (hb).trans (hW7.mono (hb).size)))
         go_ret
         exact ⟨by rw [HV.out]; rfl, hb⟩
       · rw [hd] at HDG
         clear hd
         go_upto_region 6 with (first | (refine zla (.tmp 3) B0 Try.underlying23 Try.size23 ?_) | (go_at_call 88; refine (HDG.out _).mono ?_; rintro e W3 ⟨rfl, hW3⟩; replace B0 := B0.zw hW3; replace hb := (hb).trans (hW3.mono (hb).size)))
         have lt_B0 := B0.lt
         go_upto_region 7 with (first | rw [← z64] | (refine zla (.tmp 3) B0 Try.underlying23 Try.size23 ?_) | (go_at_call 25; refine (HDV.out _).mono ?_; rintro e W4 ⟨rfl, hW4⟩; replace B0 := B0.zw hW4; replace hb := (hb).trans (hW4.mono (hb).size)) | (refine wpList_store_blk rfl 23 (.tmp 6) (.tmp 32) rfl _ 64 (dvN n D) rfl rfl 23 _ ((Blk.new W4 64 23 (fun _ => 0))) Try.size23 ?_; try simp only [Act.put]; go_upto_region 7 with (fail)))
         have lt_B0 := B0.lt
         have lhb := hb.size
         obtain ⟨W5, hwo, hzQ⟩ : ∃ v : World, v = ((W4.alloc (.cells (zb 64 (fun _ => 0)) 23)).setRow (W4.heap.size) (zb 64 (dvN n D))) ∧ Blk v (w.heap.size) 64 23 (D) ∧ Blk v (W4.heap.size) 64 23 (dvN n D) ∧ Below w.heap.size w v := ⟨_, rfl, ((B0.alloc (.cells (zb 64 (fun _ => 0)) 23)).rowOther (by omega)), ((Blk.new W4 64 23 (fun _ => 0)).row (dvN n D)), (zr (hb.alloc (by have := hb.size; simp; omega) (.cells (zb 64 (fun _ => 0)) 23)) (by omega) _)⟩
         rw [← hwo]
         clear hwo B0 hb
         obtain ⟨B0, B1, hb⟩ := hzQ
         obtain ⟨N1, hNN⟩ : ∃ n : Nat, n = W4.heap.size := ⟨_, rfl⟩
         rw [← hNN] at lt_B0 lhb B1 ⊢
         clear hNN
         have zN1_0 := lt_B0
         have zN1 := lhb
         clear lt_B0 lhb
         try simp only [Act.put, pA, pB, pC]
         go_wp2_with (first | (refine zla (.tmp 3) B0 Try.underlying23 Try.size23 ?_) | (refine zla (.tmp 6) B1 Try.underlying23 Try.size23 ?_) | (go_at_call 152; refine (HGC.out _).mono ?_; rintro e W6 ⟨rfl, hW6⟩; replace B0 := B0.zw hW6; replace B1 := B1.zw hW6; replace hb := (hb).trans (hW6.mono (hb).size)) | (go_at_call 88; refine (HDQ.out _).mono ?_; rintro e W7 ⟨rfl, hW7⟩; replace B0 := B0.zw hW7; replace B1 := B1.zw hW7; replace hb := (hb).trans (hW7.mono (hb).size)))
         go_ret
         exact ⟨by rw [HV.out]; rfl, hb⟩
       · rw [hd] at HDG
         clear hd
         go_upto_region 6 with (first | (refine zla (.tmp 3) B0 Try.underlying23 Try.size23 ?_) | (go_at_call 88; refine (HDG.out _).mono ?_; rintro e W3 ⟨rfl, hW3⟩; replace B0 := B0.zw hW3; replace hb := (hb).trans (hW3.mono (hb).size)))
         have lt_B0 := B0.lt
         go_upto_region 7 with (first | rw [← z64] | (refine zla (.tmp 3) B0 Try.underlying23 Try.size23 ?_) | (go_at_call 25; refine (HDV.out _).mono ?_; rintro e W4 ⟨rfl, hW4⟩; replace B0 := B0.zw hW4; replace hb := (hb).trans (hW4.mono (hb).size)) | (refine wpList_store_blk rfl 23 (.tmp 6) (.tmp 32) rfl _ 64 (dvN n D) rfl rfl 23 _ ((Blk.new W4 64 23 (fun _ => 0))) Try.size23 ?_; try simp only [Act.put]; go_upto_region 7 with (fail)))
         have lt_B0 := B0.lt
         have lhb := hb.size
         obtain ⟨W5, hwo, hzQ⟩ : ∃ v : World, v = ((W4.alloc (.cells (zb 64 (fun _ => 0)) 23)).setRow (W4.heap.size) (zb 64 (dvN n D))) ∧ Blk v (w.heap.size) 64 23 (D) ∧ Blk v (W4.heap.size) 64 23 (dvN n D) ∧ Below w.heap.size w v := ⟨_, rfl, ((B0.alloc (.cells (zb 64 (fun _ => 0)) 23)).rowOther (by omega)), ((Blk.new W4 64 23 (fun _ => 0)).row (dvN n D)), (zr (hb.alloc (by have := hb.size; simp; omega) (.cells (zb 64 (fun _ => 0)) 23)) (by omega) _)⟩
         rw [← hwo]
         clear hwo B0 hb
         obtain ⟨B0, B1, hb⟩ := hzQ
         obtain ⟨N1, hNN⟩ : ∃ n : Nat, n = W4.heap.size := ⟨_, rfl⟩
         rw [← hNN] at lt_B0 lhb B1 ⊢
         clear hNN
         have zN1_0 := lt_B0
         have zN1 := lhb
         clear lt_B0 lhb
         try simp only [Act.put, pA, pB, pC]
         go_wp2_with (first | (refine zla (.tmp 3) B0 Try.underlying23 Try.size23 ?_) | (refine zla (.tmp 6) B1 Try.underlying23 Try.size23 ?_) | (go_at_call 152; refine (HGC.out _).mono ?_; rintro e W6 ⟨rfl, hW6⟩; replace B0 := B0.zw hW6; replace B1 := B1.zw hW6; replace hb := (hb).trans (hW6.mono (hb).size)) | (go_at_call 88; refine (HDQ.out _).mono ?_; rintro e W7 ⟨rfl, hW7⟩; replace B0 := B0.zw hW7; replace B1 := B1.zw hW7; replace hb := (hb).trans (hW7.mono (hb).size)))
         go_ret
         exact ⟨by rw [HV.out]; rfl, hb⟩
      | false =>
       rw [hz] at HV
       simp only [decide_eq_true_eq, decide_eq_false_iff_not] at hz
       rcases hd with hd | hd | hd
       · rw [hd] at HDG
         clear hd
         go_upto_region 6 with (first | (refine zla (.tmp 3) B0 Try.underlying23 Try.size23 ?_) | (go_at_call 88; refine (HDG.out _).mono ?_; rintro e W3 ⟨rfl, hW3⟩; replace B0 := B0.zw hW3; replace hb := (hb).trans (hW3.mono (hb).size)))
         have lt_B0 := B0.lt
         go_upto_region 7 with (first | rw [← z64] | (refine zla (.tmp 3) B0 Try.underlying23 Try.size23 ?_) | (go_at_call 25; refine (HDV.out _).mono ?_; rintro e W4 ⟨rfl, hW4⟩; replace B0 := B0.zw hW4; replace hb := (hb).trans (hW4.mono (hb).size)) | (refine wpList_store_blk rfl 23 (.tmp 6) (.tmp 32) rfl _ 64 (dvN n D) rfl rfl 23 _ ((Blk.new W4 64 23 (fun _ => 0))) Try.size23 ?_; try simp only [Act.put]; go_upto_region 7 with (fail)))
         have lt_B0 := B0.lt
         have lhb := hb.size
         obtain ⟨W5, hwo, hzQ⟩ : ∃ v : World, v = ((W4.alloc (.cells (zb 64 (fun _ => 0)) 23)).setRow (W4.heap.size) (zb 64 (dvN n D))) ∧ Blk v (w.heap.size) 64 23 (D) ∧ Blk v (W4.heap.size) 64 23 (dvN n D) ∧ Below w.heap.size w v := ⟨_, rfl, ((B0.alloc (.cells (zb 64 (fun _ => 0)) 23)).rowOther (by omega)), ((Blk.new W4 64 23 (fun _ => 0)).row (dvN n D)), (zr (hb.alloc (by have := hb.size; simp; omega) (.cells (zb 64 (fun _ => 0)) 23)) (by omega) _)⟩
         rw [← hwo]
         clear hwo B0 hb
         obtain ⟨B0, B1, hb⟩ := hzQ
         obtain ⟨N1, hNN⟩ : ∃ n : Nat, n = W4.heap.size := ⟨_, rfl⟩
         rw [← hNN] at lt_B0 lhb B1 ⊢
         clear hNN
         have zN1_0 := lt_B0
         have zN1 := lhb
         clear lt_B0 lhb
         try simp only [Act.put, pA, pB, pC]
         go_wp2_with (first | (refine zla (.tmp 3) B0 Try.underlying23 Try.size23 ?_) | (refine zla (.tmp 6) B1 Try.underlying23 Try.size23 ?_) | (go_at_call 152; refine (HGC.out _).mono ?_; rintro e W6 ⟨rfl, hW6⟩; replace B0 := B0.zw hW6; replace B1 := B1.zw hW6; replace hb := (hb).trans (hW6.mono (hb).size)) | (go_at_call 88; refine (HDQ.out _).mono ?_; rintro e W7 ⟨rfl, hW7⟩; replace B0 := B0.zw hW7; replace B1 := B1.zw hW7; replace hb := (hb).trans (hW7.mono (hb).size)))
         go_ret
         exact ⟨by rw [HV.out]; first | rfl | simp [hz], hb⟩
       · rw [hd] at HDG
         clear hd
         go_upto_region 6 with (first | (refine zla (.tmp 3) B0 Try.underlying23 Try.size23 ?_) | (go_at_call 88; refine (HDG.out _).mono ?_; rintro e W3 ⟨rfl, hW3⟩; replace B0 := B0.zw hW3; replace hb := (hb).trans (hW3.mono (hb).size)))
         have lt_B0 := B0.lt
         go_upto_region 7 with (first | rw [← z64] | (refine zla (.tmp 3) B0 Try.underlying23 Try.size23 ?_) | (go_at_call 25; refine (HDV.out _).mono ?_; rintro e W4 ⟨rfl, hW4⟩; replace B0 := B0.zw hW4; replace hb := (hb).trans (hW4.mono (hb).size)) | (refine wpList_store_blk rfl 23 (.tmp 6) (.tmp 32) rfl _ 64 (dvN n D) rfl rfl 23 _ ((Blk.new W4 64 23 (fun _ => 0))) Try.size23 ?_; try simp only [Act.put]; go_upto_region 7 with (fail)))
         have lt_B0 := B0.lt
         have lhb := hb.size
         obtain ⟨W5, hwo, hzQ⟩ : ∃ v : World, v = ((W4.alloc (.cells (zb 64 (fun _ => 0)) 23)).setRow (W4.heap.size) (zb 64 (dvN n D))) ∧ Blk v (w.heap.size) 64 23 (D) ∧ Blk v (W4.heap.size) 64 23 (dvN n D) ∧ Below w.heap.size w v := ⟨_, rfl, ((B0.alloc (.cells (zb 64 (fun _ => 0)) 23)).rowOther (by omega)), ((Blk.new W4 64 23 (fun _ => 0)).row (dvN n D)), (zr (hb.alloc (by have := hb.size; simp; omega) (.cells (zb 64 (fun _ => 0)) 23)) (by omega) _)⟩
         rw [← hwo]
         clear hwo B0 hb
         obtain ⟨B0, B1, hb⟩ := hzQ
         obtain ⟨N1, hNN⟩ : ∃ n : Nat, n = W4.heap.size := ⟨_, rfl⟩
         rw [← hNN] at lt_B0 lhb B1 ⊢
         clear hNN
         have zN1_0 := lt_B0
         have zN1 := lhb
         clear lt_B0 lhb
         try simp only [Act.put, pA, pB, pC]
         go_wp2_with (first | (refine zla (.tmp 3) B0 Try.underlying23 Try.size23 ?_) | (refine zla (.tmp 6) B1 Try.underlying23 Try.size23 ?_) | (go_at_call 152; refine (HGC.out _).mono ?_; rintro e W6 ⟨rfl, hW6⟩; replace B0 := B0.zw hW6; replace B1 := B1.zw hW6; replace hb := (hb).trans (hW6.mono (hb).size)) | (go_at_call 88; refine (HDQ.out _).mono ?_; rintro e W7 ⟨rfl, hW7⟩; replace B0 := B0.zw hW7; replace B1 := B1.zw hW7; replace hb := (hb).trans (hW7.mono (hb).size)))
         go_ret
         exact ⟨by rw [HV.out]; first | rfl | simp [hz], hb⟩
       · rw [hd] at HDG
         clear hd
         go_upto_region 6 with (first | (refine zla (.tmp 3) B0 Try.underlying23 Try.size23 ?_) | (go_at_call 88; refine (HDG.out _).mono ?_; rintro e W3 ⟨rfl, hW3⟩; replace B0 := B0.zw hW3; replace hb := (hb).trans (hW3.mono (hb).size)))
         have lt_B0 := B0.lt
         go_upto_region 7 with (first | rw [← z64] | (refine zla (.tmp 3) B0 Try.underlying23 Try.size23 ?_) | (go_at_call 25; refine (HDV.out _).mono ?_; rintro e W4 ⟨rfl, hW4⟩; replace B0 := B0.zw hW4; replace hb := (hb).trans (hW4.mono (hb).size)) | (refine wpList_store_blk rfl 23 (.tmp 6) (.tmp 32) rfl _ 64 (dvN n D) rfl rfl 23 _ ((Blk.new W4 64 23 (fun _ => 0))) Try.size23 ?_; try simp only [Act.put]; go_upto_region 7 with (fail)))
         have lt_B0 := B0.lt
         have lhb := hb.size
         obtain ⟨W5, hwo, hzQ⟩ : ∃ v : World, v = ((W4.alloc (.cells (zb 64 (fun _ => 0)) 23)).setRow (W4.heap.size) (zb 64 (dvN n D))) ∧ Blk v (w.heap.size) 64 23 (D) ∧ Blk v (W4.heap.size) 64 23 (dvN n D) ∧ Below w.heap.size w v := ⟨_, rfl, ((B0.alloc (.cells (zb 64 (fun _ => 0)) 23)).rowOther (by omega)), ((Blk.new W4 64 23 (fun _ => 0)).row (dvN n D)), (zr (hb.alloc (by have := hb.size; simp; omega) (.cells (zb 64 (fun _ => 0)) 23)) (by omega) _)⟩
         rw [← hwo]
         clear hwo B0 hb
         obtain ⟨B0, B1, hb⟩ := hzQ
         obtain ⟨N1, hNN⟩ : ∃ n : Nat, n = W4.heap.size := ⟨_, rfl⟩
         rw [← hNN] at lt_B0 lhb B1 ⊢
         clear hNN
         have zN1_0 := lt_B0
         have zN1 := lhb
         clear lt_B0 lhb
         try simp only [Act.put, pA, pB, pC]
         go_wp2_with (first | (refine zla (.tmp 3) B0 Try.underlying23 Try.size23 ?_) | (refine zla (.tmp 6) B1 Try.underlying23 Try.size23 ?_) | (go_at_call 152; refine (HGC.out _).mono ?_; rintro e W6 ⟨rfl, hW6⟩; replace B0 := B0.zw hW6; replace B1 := B1.zw hW6; replace hb := (hb).trans (hW6.mono (hb).size)) | (go_at_call 88; refine (HDQ.out _).mono ?_; rintro e W7 ⟨rfl, hW7⟩; replace B0 := B0.zw hW7; replace B1 := B1.zw hW7; replace hb := (hb).trans (hW7.mono (hb).size)))
         go_ret
         exact ⟨by rw [HV.out]; first | rfl | simp [hz], hb⟩
    · have HV := Lib.hid (dcB_3 (p := (n : Int)) hd)
      have d1 : ¬ deg D = 1 := fun h => hd (.inl h)
      have d3 : ¬ deg D = 3 := fun h => hd (.inr (.inl h))
      have d5 : ¬ deg D = 5 := fun h => hd (.inr (.inr h))
      have b1 : (deg D == 1) = false := beq_eq_false_iff_ne.2 d1
      have b3 : (deg D == 3) = false := beq_eq_false_iff_ne.2 d3
      have b5 : (deg D == 5) = false := beq_eq_false_iff_ne.2 d5
      have c1 : (deg D != 1) = true := bne_iff_ne.2 d1
      have c3 : (deg D != 3) = true := bne_iff_ne.2 d3
      have c5 : (deg D != 5) = true := bne_iff_ne.2 d5
      clear hd
      go_upto_region 5 with (first | (refine zla (.tmp 3) B0 Try.underlying23 Try.size23 ?_) | (go_at_call 88; refine (HDG.out _).mono ?_; rintro e W3 ⟨rfl, hW3⟩; replace B0 := B0.zw hW3; replace hb := (hb).trans (hW3.mono (hb).size)))
      go_wp2_with fail
      go_ret
      exact ⟨by rw [HV.out]; rfl, hb⟩
set_option maxRecDepth 100000 in
set_option maxHeartbeats 3200000 in
theorem l07Form_any (p : Nat) (D A B : Nat → Nat) (w : World) (hpr : p = 2 ∨ p = 3 ∨ p = 5 ∨ p = 7) (lD : ∀ k, k < 64 → D k < p) (hA : byte A) (hB : byte B) :
 Calls Try.prog 125 #[.int .i64 (p : Int), .agg (zb 64 D), .agg (frC A B).toArray] w fun e w' => e = .returned (.bool (fmB (p : Int) D A B)) ∧ Below w.heap.size w w' := by
 have HO1 := Lib.hid (fun W => l01Is_any (p : Int) A hA W)
 have HO2 := Lib.hid (fun W => l01Is_any (p : Int) B hB W)
 have HMO := Lib.hid (fun W => l01Monic_any A hA W)
 have HDA := Lib.hid (fun W => l01Deg_any A W)
 have HDB := Lib.hid (fun W => l01Deg_any B W)
 go_enter Try.func125, Try.ntmps125
 go_upto_region 1 with (fail)
 obtain ⟨W1, hwo⟩ : ∃ v : World, v = ((w.alloc (.cells (zb 64 (D)) 23)).alloc (.cells (frC A B).toArray 55)) := ⟨_, rfl⟩
 have B0 : Blk W1 (w.heap.size) 64 23 (D) := by subst hwo; have := ((Blk.new w 64 23 (D)).alloc (.cells (frC A B).toArray 55)); simpa using this
 have B1 : Row W1 (w.heap.size + 1) 55 (frC A B).toArray := by subst hwo; have := (Row.new (w.alloc (.cells (zb 64 (D)) 23)) 55 (frC A B).toArray); simpa using this
 have hb : Below w.heap.size w W1 := by subst hwo; exact (((Below.refl _ _).alloc (Nat.le_refl _) _).alloc (by simp) _)
 rw [← hwo]
 clear hwo
 cases ho1 : okA (p : Int) A with
 | false =>
  rw [ho1] at HO1
  have HV := Lib.hid (fmB_1 (D := D) (B := B) ho1)
  have lt_B0 : (w.heap.size) < W1.heap.size := B0.lt
  have lt_B1 : (w.heap.size + 1) < W1.heap.size := B1.lt
  have hbase : w.heap.size ≤ W1.heap.size := hb.size
  refine wp_region_stepsG Try.mixed (by kernel_rfl) (by kernel_rfl) (fun v => by (simp only [frL, Act.put, pA, pB, pC, Nat.reduceAdd, Nat.zero_add]; exact rfl))
   (fun L v W2 => Below w.heap.size w W2 ∧ W1.heap.size ≤ W2.heap.size ∧ Blk W2 (w.heap.size) 64 23 (D) ∧ Row W2 (w.heap.size + 1) 55 (frC A B).toArray ∧ VF L v [some (.int .i64 (p : Int)), some (.pointer (some ⟨w.heap.size + 1, 0, none⟩)), some (.agg (zb 64 (A))), some (.bool false), some (.bool true), some (.bool true), some undef, some undef, some undef, some undef, some undef, some (.bool true), some (.bool true), some undef, some undef, some undef, some undef, some (.bool true), some (.bool true), some undef, some undef, some undef, some undef, some (.bool true), some (.bool true), some undef, some undef, some undef, some undef, some undef, some undef, some undef, some (.bool true)]) ?_ ?_ ?_
  · intro v hv0
    exact ⟨hb.drew, Nat.le_refl _, B0.drew, B1.drew, VF.start⟩
  · refine (.cons ?_ (.cons ?_ (.cons ?_ (.cons ?_ (.cons ?_ (.cons ?_ (.cons ?_ (.cons ?_ (.cons ?_ (.cons ?_ (.cons ?_ (.cons ?_ (.cons ?_ (.cons ?_ (.cons ?_ (.cons ?_ (.cons ?_ (.cons ?_ (.cons ?_ (.cons ?_ (.cons ?_ (.cons ?_ (.cons ?_ (.cons ?_ (.cons ?_ (.cons ?_ (.cons ?_ (.cons ?_ (.cons ?_ (.cons ?_ (.cons ?_ (.cons ?_ (.cons ?_ (.nil _))))))))))))))))))))))))))))))))))
    · intro L v W2 hd hn ⟨hB, hz, s0, s1, V⟩ K hK
      rw [if_pos (by simp [Region.wanted])]
      go_wp2_with fail
      exact hK _ (.int .i64 (p : Int)) _ (by simp only [Act.put, pA, pB, pC ]) ⟨hB, hz, s0, s1, V.step 0 rfl⟩
    · intro L v W2 hd hn ⟨hB, hz, s0, s1, V⟩ K hK
      rw [if_pos (by simp [Region.wanted])]
      go_wp2_with fail
      exact hK _ (.pointer (some ⟨w.heap.size + 1, 0, none⟩)) _ (by simp only [Act.put, pA, pB, pC ]) ⟨hB, hz, s0, s1, V.step 1 rfl⟩
    · intro L v W2 hd hn ⟨hB, hz, s0, s1, V⟩ K hK
      have e1 := V.at (zdq hd 1 rfl) rfl
      rw [if_pos (by simp [Region.wanted])]
      refine wp_load_mid 23 _ rfl _ 0 e1 _ _ (s1.fra) Try.underlying23 rfl (by rw [zl]; exact Try.size23) ?_
      exact hK _ _ _ rfl ⟨hB, hz, s0, s1, V.step 2 rfl⟩
    · intro L v W2 hd hn ⟨hB, hz, s0, s1, V⟩ K hK
      have e0 := V.at (zdq hd 0 rfl) rfl
      have e2 := V.at (zdq hd 2 rfl) rfl
      rw [if_pos (by simp [Region.wanted])]
      go_wp2_with (go_at_call 144; refine (HO1.out _).mono ?_; rintro e wy ⟨rfl, hy⟩)
      exact hK _ (.bool false) _ (by simp only [Act.put, pA, pB, pC, e0, e2]) ⟨hB.trans (hy.mono hB.size), (Nat.le_trans hz hy.size), s0.zw hy, s1.zw hy, V.step 3 rfl⟩
    · intro L v W2 hd hn ⟨hB, hz, s0, s1, V⟩ K hK
      have e3 := V.at (zdq hd 3 rfl) rfl
      rw [if_pos (by simp [Region.wanted])]
      go_wp2_with fail
      exact hK _ (.bool true) _ (by simp only [Act.put, pA, pB, pC, e3]) ⟨hB, hz, s0, s1, V.step 4 rfl⟩
    · intro L v W2 hd hn ⟨hB, hz, s0, s1, V⟩ K hK
      have e4 := V.at (zdq hd 4 rfl) rfl
      rw [if_pos (by simp [Region.wanted])]
      go_wp2_with fail
      exact hK _ (.bool true) _ (by simp only [Act.put, pA, pB, pC, e4]) ⟨hB, hz, s0, s1, V.step 5 rfl⟩
    · intro L v W2 hd hn ⟨hB, hz, s0, s1, V⟩ K hK
      have e5 := V.at (zdq hd 5 rfl) rfl
      rw [if_neg (by simp [Region.wanted, yielded, e5])]
      exact hK _ undef _ rfl ⟨hB, hz, s0, s1, V.step 6 rfl⟩
    · intro L v W2 hd hn ⟨hB, hz, s0, s1, V⟩ K hK
      have e5 := V.at (zdq hd 5 rfl) rfl
      rw [if_neg (by simp [Region.wanted, yielded, e5])]
      exact hK _ undef _ rfl ⟨hB, hz, s0, s1, V.step 7 rfl⟩
    · intro L v W2 hd hn ⟨hB, hz, s0, s1, V⟩ K hK
      have e7 := V.at (zdq hd 7 rfl) rfl
      have e5 := V.at (zdq hd 5 rfl) rfl
      rw [if_neg (by simp [Region.wanted, yielded, e5])]
      exact hK _ undef _ rfl ⟨hB, hz, s0, s1, V.step 8 rfl⟩
    · intro L v W2 hd hn ⟨hB, hz, s0, s1, V⟩ K hK
      have e6 := V.at (zdq hd 6 rfl) rfl
      have e8 := V.at (zdq hd 8 rfl) rfl
      have e5 := V.at (zdq hd 5 rfl) rfl
      rw [if_neg (by simp [Region.wanted, yielded, e5])]
      exact hK _ undef _ rfl ⟨hB, hz, s0, s1, V.step 9 rfl⟩
    · intro L v W2 hd hn ⟨hB, hz, s0, s1, V⟩ K hK
      have e9 := V.at (zdq hd 9 rfl) rfl
      have e5 := V.at (zdq hd 5 rfl) rfl
      rw [if_neg (by simp [Region.wanted, yielded, e5])]
      exact hK _ undef _ rfl ⟨hB, hz, s0, s1, V.step 10 rfl⟩
    · intro L v W2 hd hn ⟨hB, hz, s0, s1, V⟩ K hK
      have e5 := V.at (zdq hd 5 rfl) rfl
      have e10 := V.at (zdq hd 10 rfl) rfl
      rw [if_pos (by simp [Region.wanted])]
      go_wp2_with fail
      exact hK _ (.bool true) _ (by simp only [Act.put, pA, pB, pC, e5, e10]) ⟨hB, hz, s0, s1, V.step 11 rfl⟩
    · intro L v W2 hd hn ⟨hB, hz, s0, s1, V⟩ K hK
      have e11 := V.at (zdq hd 11 rfl) rfl
      rw [if_pos (by simp [Region.wanted])]
      go_wp2_with fail
      exact hK _ (.bool true) _ (by simp only [Act.put, pA, pB, pC, e11]) ⟨hB, hz, s0, s1, V.step 12 rfl⟩
    · intro L v W2 hd hn ⟨hB, hz, s0, s1, V⟩ K hK
      have e12 := V.at (zdq hd 12 rfl) rfl
      rw [if_neg (by simp [Region.wanted, yielded, e12])]
      exact hK _ undef _ rfl ⟨hB, hz, s0, s1, V.step 13 rfl⟩
    · intro L v W2 hd hn ⟨hB, hz, s0, s1, V⟩ K hK
      have e13 := V.at (zdq hd 13 rfl) rfl
      have e12 := V.at (zdq hd 12 rfl) rfl
      rw [if_neg (by simp [Region.wanted, yielded, e12])]
      exact hK _ undef _ rfl ⟨hB, hz, s0, s1, V.step 14 rfl⟩
    · intro L v W2 hd hn ⟨hB, hz, s0, s1, V⟩ K hK
      have e14 := V.at (zdq hd 14 rfl) rfl
      have e12 := V.at (zdq hd 12 rfl) rfl
      rw [if_neg (by simp [Region.wanted, yielded, e12])]
      exact hK _ undef _ rfl ⟨hB, hz, s0, s1, V.step 15 rfl⟩
    · intro L v W2 hd hn ⟨hB, hz, s0, s1, V⟩ K hK
      have e15 := V.at (zdq hd 15 rfl) rfl
      have e12 := V.at (zdq hd 12 rfl) rfl
      rw [if_neg (by simp [Region.wanted, yielded, e12])]
      exact hK _ undef _ rfl ⟨hB, hz, s0, s1, V.step 16 rfl⟩
    · intro L v W2 hd hn ⟨hB, hz, s0, s1, V⟩ K hK
      have e12 := V.at (zdq hd 12 rfl) rfl
      have e16 := V.at (zdq hd 16 rfl) rfl
      rw [if_pos (by simp [Region.wanted])]
      go_wp2_with fail
      exact hK _ (.bool true) _ (by simp only [Act.put, pA, pB, pC, e12, e16]) ⟨hB, hz, s0, s1, V.step 17 rfl⟩
    · intro L v W2 hd hn ⟨hB, hz, s0, s1, V⟩ K hK
      have e17 := V.at (zdq hd 17 rfl) rfl
      rw [if_pos (by simp [Region.wanted])]
      go_wp2_with fail
      exact hK _ (.bool true) _ (by simp only [Act.put, pA, pB, pC, e17]) ⟨hB, hz, s0, s1, V.step 18 rfl⟩
    · intro L v W2 hd hn ⟨hB, hz, s0, s1, V⟩ K hK
      have e18 := V.at (zdq hd 18 rfl) rfl
      rw [if_neg (by simp [Region.wanted, yielded, e18])]
      exact hK _ undef _ rfl ⟨hB, hz, s0, s1, V.step 19 rfl⟩
    · intro L v W2 hd hn ⟨hB, hz, s0, s1, V⟩ K hK
      have e19 := V.at (zdq hd 19 rfl) rfl
      have e18 := V.at (zdq hd 18 rfl) rfl
      rw [if_neg (by simp [Region.wanted, yielded, e18])]
      exact hK _ undef _ rfl ⟨hB, hz, s0, s1, V.step 20 rfl⟩
    · intro L v W2 hd hn ⟨hB, hz, s0, s1, V⟩ K hK
      have e20 := V.at (zdq hd 20 rfl) rfl
      have e18 := V.at (zdq hd 18 rfl) rfl
      rw [if_neg (by simp [Region.wanted, yielded, e18])]
      exact hK _ undef _ rfl ⟨hB, hz, s0, s1, V.step 21 rfl⟩
    · intro L v W2 hd hn ⟨hB, hz, s0, s1, V⟩ K hK
      have e21 := V.at (zdq hd 21 rfl) rfl
      have e18 := V.at (zdq hd 18 rfl) rfl
      rw [if_neg (by simp [Region.wanted, yielded, e18])]
      exact hK _ undef _ rfl ⟨hB, hz, s0, s1, V.step 22 rfl⟩
    · intro L v W2 hd hn ⟨hB, hz, s0, s1, V⟩ K hK
      have e18 := V.at (zdq hd 18 rfl) rfl
      have e22 := V.at (zdq hd 22 rfl) rfl
      rw [if_pos (by simp [Region.wanted])]
      go_wp2_with fail
      exact hK _ (.bool true) _ (by simp only [Act.put, pA, pB, pC, e18, e22]) ⟨hB, hz, s0, s1, V.step 23 rfl⟩
    · intro L v W2 hd hn ⟨hB, hz, s0, s1, V⟩ K hK
      have e23 := V.at (zdq hd 23 rfl) rfl
      rw [if_pos (by simp [Region.wanted])]
      go_wp2_with fail
      exact hK _ (.bool true) _ (by simp only [Act.put, pA, pB, pC, e23]) ⟨hB, hz, s0, s1, V.step 24 rfl⟩
    · intro L v W2 hd hn ⟨hB, hz, s0, s1, V⟩ K hK
      have e24 := V.at (zdq hd 24 rfl) rfl
      rw [if_neg (by simp [Region.wanted, yielded, e24])]
      exact hK _ undef _ rfl ⟨hB, hz, s0, s1, V.step 25 rfl⟩
    · intro L v W2 hd hn ⟨hB, hz, s0, s1, V⟩ K hK
      have e25 := V.at (zdq hd 25 rfl) rfl
      have e24 := V.at (zdq hd 24 rfl) rfl
      rw [if_neg (by simp [Region.wanted, yielded, e24])]
      exact hK _ undef _ rfl ⟨hB, hz, s0, s1, V.step 26 rfl⟩
    · intro L v W2 hd hn ⟨hB, hz, s0, s1, V⟩ K hK
      have e26 := V.at (zdq hd 26 rfl) rfl
      have e24 := V.at (zdq hd 24 rfl) rfl
      rw [if_neg (by simp [Region.wanted, yielded, e24])]
      exact hK _ undef _ rfl ⟨hB, hz, s0, s1, V.step 27 rfl⟩
    · intro L v W2 hd hn ⟨hB, hz, s0, s1, V⟩ K hK
      have e24 := V.at (zdq hd 24 rfl) rfl
      rw [if_neg (by simp [Region.wanted, yielded, e24])]
      exact hK _ undef _ rfl ⟨hB, hz, s0, s1, V.step 28 rfl⟩
    · intro L v W2 hd hn ⟨hB, hz, s0, s1, V⟩ K hK
      have e28 := V.at (zdq hd 28 rfl) rfl
      have e24 := V.at (zdq hd 24 rfl) rfl
      rw [if_neg (by simp [Region.wanted, yielded, e24])]
      exact hK _ undef _ rfl ⟨hB, hz, s0, s1, V.step 29 rfl⟩
    · intro L v W2 hd hn ⟨hB, hz, s0, s1, V⟩ K hK
      have e29 := V.at (zdq hd 29 rfl) rfl
      have e24 := V.at (zdq hd 24 rfl) rfl
      rw [if_neg (by simp [Region.wanted, yielded, e24])]
      exact hK _ undef _ rfl ⟨hB, hz, s0, s1, V.step 30 rfl⟩
    · intro L v W2 hd hn ⟨hB, hz, s0, s1, V⟩ K hK
      have e27 := V.at (zdq hd 27 rfl) rfl
      have e30 := V.at (zdq hd 30 rfl) rfl
      have e24 := V.at (zdq hd 24 rfl) rfl
      rw [if_neg (by simp [Region.wanted, yielded, e24])]
      exact hK _ undef _ rfl ⟨hB, hz, s0, s1, V.step 31 rfl⟩
    · intro L v W2 hd hn ⟨hB, hz, s0, s1, V⟩ K hK
      have e24 := V.at (zdq hd 24 rfl) rfl
      have e31 := V.at (zdq hd 31 rfl) rfl
      rw [if_pos (by simp [Region.wanted])]
      go_wp2_with fail
      exact hK _ (.bool true) _ (by simp only [Act.put, pA, pB, pC, e24, e31]) ⟨hB, hz, s0, s1, V.step 32 rfl⟩
  · intro L v W2 hL ⟨hB, hz, s0, s1, V⟩
    have e0 := V.at (hL 0 (by decide)) rfl
    have e1 := V.at (hL 1 (by decide)) rfl
    have e2 := V.at (hL 2 (by decide)) rfl
    have e3 := V.at (hL 3 (by decide)) rfl
    have e4 := V.at (hL 4 (by decide)) rfl
    have e5 := V.at (hL 5 (by decide)) rfl
    have e6 := V.at (hL 6 (by decide)) rfl
    have e7 := V.at (hL 7 (by decide)) rfl
    have e8 := V.at (hL 8 (by decide)) rfl
    have e9 := V.at (hL 9 (by decide)) rfl
    have e10 := V.at (hL 10 (by decide)) rfl
    have e11 := V.at (hL 11 (by decide)) rfl
    have e12 := V.at (hL 12 (by decide)) rfl
    have e13 := V.at (hL 13 (by decide)) rfl
    have e14 := V.at (hL 14 (by decide)) rfl
    have e15 := V.at (hL 15 (by decide)) rfl
    have e16 := V.at (hL 16 (by decide)) rfl
    have e17 := V.at (hL 17 (by decide)) rfl
    have e18 := V.at (hL 18 (by decide)) rfl
    have e19 := V.at (hL 19 (by decide)) rfl
    have e20 := V.at (hL 20 (by decide)) rfl
    have e21 := V.at (hL 21 (by decide)) rfl
    have e22 := V.at (hL 22 (by decide)) rfl
    have e23 := V.at (hL 23 (by decide)) rfl
    have e24 := V.at (hL 24 (by decide)) rfl
    have e25 := V.at (hL 25 (by decide)) rfl
    have e26 := V.at (hL 26 (by decide)) rfl
    have e27 := V.at (hL 27 (by decide)) rfl
    have e28 := V.at (hL 28 (by decide)) rfl
    have e29 := V.at (hL 29 (by decide)) rfl
    have e30 := V.at (hL 30 (by decide)) rfl
    have e31 := V.at (hL 31 (by decide)) rfl
    have e32 := V.at (hL 32 (by decide)) rfl
    clear hL V
    simp only [Exit.then, e0, e1, e2, e3, e4, e5, e6, e7, e8, e9, e10, e11, e12, e13, e14, e15, e16, e17, e18, e19, e20, e21, e22, e23, e24, e25, e26, e27, e28, e29, e30, e31, e32]
    clear e0 e1 e2 e3 e4 e5 e6 e7 e8 e9 e10 e11 e12 e13 e14 e15 e16 e17 e18 e19 e20 e21 e22 e23 e24 e25 e26 e27 e28 e29 e30 e31 e32
    replace B0 := s0
    clear s0
    replace B1 := s1
    clear s1
    replace hb := hB
    clear hB
    clear hbase hz lt_B0 lt_B1
    go_wp2_with fail
    go_ret
    exact ⟨by rw [HV.out]; rfl, hb⟩
 | true =>
  cases ho2 : okA (p : Int) B with
  | false =>
   rw [ho1] at HO1
   rw [ho2] at HO2
   have HV := Lib.hid (fmB_2 (D := D) (A := A) ho2)
   have lt_B0 : (w.heap.size) < W1.heap.size := B0.lt
   have lt_B1 : (w.heap.size + 1) < W1.heap.size := B1.lt
   have hbase : w.heap.size ≤ W1.heap.size := hb.size
   refine wp_region_stepsG Try.mixed (by kernel_rfl) (by kernel_rfl) (fun v => by (simp only [frL, Act.put, pA, pB, pC, Nat.reduceAdd, Nat.zero_add]; exact rfl))
    (fun L v W2 => Below w.heap.size w W2 ∧ W1.heap.size ≤ W2.heap.size ∧ Blk W2 (w.heap.size) 64 23 (D) ∧ Row W2 (w.heap.size + 1) 55 (frC A B).toArray ∧ VF L v [some (.int .i64 (p : Int)), some (.pointer (some ⟨w.heap.size + 1, 0, none⟩)), some (.agg (zb 64 (A))), some (.bool true), some (.bool false), some (.bool false), some (.int .i64 (p : Int)), some (.pointer (some ⟨w.heap.size + 1, 64, none⟩)), some (.agg (zb 64 (B))), some (.bool false), some (.bool true), some (.bool true), some (.bool true), some undef, some undef, some undef, some undef, some (.bool true), some (.bool true), some undef, some undef, some undef, some undef, some (.bool true), some (.bool true), some undef, some undef, some undef, some undef, some undef, some undef, some undef, some (.bool true)]) ?_ ?_ ?_
   · intro v hv0
     exact ⟨hb.drew, Nat.le_refl _, B0.drew, B1.drew, VF.start⟩
   · refine (.cons ?_ (.cons ?_ (.cons ?_ (.cons ?_ (.cons ?_ (.cons ?_ (.cons ?_ (.cons ?_ (.cons ?_ (.cons ?_ (.cons ?_ (.cons ?_ (.cons ?_ (.cons ?_ (.cons ?_ (.cons ?_ (.cons ?_ (.cons ?_ (.cons ?_ (.cons ?_ (.cons ?_ (.cons ?_ (.cons ?_ (.cons ?_ (.cons ?_ (.cons ?_ (.cons ?_ (.cons ?_ (.cons ?_ (.cons ?_ (.cons ?_ (.cons ?_ (.cons ?_ (.nil _))))))))))))))))))))))))))))))))))
     · intro L v W2 hd hn ⟨hB, hz, s0, s1, V⟩ K hK
       rw [if_pos (by simp [Region.wanted])]
       go_wp2_with fail
       exact hK _ (.int .i64 (p : Int)) _ (by simp only [Act.put, pA, pB, pC ]) ⟨hB, hz, s0, s1, V.step 0 rfl⟩
     · intro L v W2 hd hn ⟨hB, hz, s0, s1, V⟩ K hK
       rw [if_pos (by simp [Region.wanted])]
       go_wp2_with fail
       exact hK _ (.pointer (some ⟨w.heap.size + 1, 0, none⟩)) _ (by simp only [Act.put, pA, pB, pC ]) ⟨hB, hz, s0, s1, V.step 1 rfl⟩
     · intro L v W2 hd hn ⟨hB, hz, s0, s1, V⟩ K hK
       have e1 := V.at (zdq hd 1 rfl) rfl
       rw [if_pos (by simp [Region.wanted])]
       refine wp_load_mid 23 _ rfl _ 0 e1 _ _ (s1.fra) Try.underlying23 rfl (by rw [zl]; exact Try.size23) ?_
       exact hK _ _ _ rfl ⟨hB, hz, s0, s1, V.step 2 rfl⟩
     · intro L v W2 hd hn ⟨hB, hz, s0, s1, V⟩ K hK
       have e0 := V.at (zdq hd 0 rfl) rfl
       have e2 := V.at (zdq hd 2 rfl) rfl
       rw [if_pos (by simp [Region.wanted])]
       go_wp2_with (go_at_call 144; refine (HO1.out _).mono ?_; rintro e wy ⟨rfl, hy⟩)
       exact hK _ (.bool true) _ (by simp only [Act.put, pA, pB, pC, e0, e2]) ⟨hB.trans (hy.mono hB.size), (Nat.le_trans hz hy.size), s0.zw hy, s1.zw hy, V.step 3 rfl⟩
     · intro L v W2 hd hn ⟨hB, hz, s0, s1, V⟩ K hK
       have e3 := V.at (zdq hd 3 rfl) rfl
       rw [if_pos (by simp [Region.wanted])]
       go_wp2_with fail
       exact hK _ (.bool false) _ (by simp only [Act.put, pA, pB, pC, e3]) ⟨hB, hz, s0, s1, V.step 4 rfl⟩
     · intro L v W2 hd hn ⟨hB, hz, s0, s1, V⟩ K hK
       have e4 := V.at (zdq hd 4 rfl) rfl
       rw [if_pos (by simp [Region.wanted])]
       go_wp2_with fail
       exact hK _ (.bool false) _ (by simp only [Act.put, pA, pB, pC, e4]) ⟨hB, hz, s0, s1, V.step 5 rfl⟩
     · intro L v W2 hd hn ⟨hB, hz, s0, s1, V⟩ K hK
       have e5 := V.at (zdq hd 5 rfl) rfl
       rw [if_pos (by simp [Region.wanted, yielded, e5])]
       go_wp2_with fail
       exact hK _ (.int .i64 (p : Int)) _ (by simp only [Act.put, pA, pB, pC, e5]) ⟨hB, hz, s0, s1, V.step 6 rfl⟩
     · intro L v W2 hd hn ⟨hB, hz, s0, s1, V⟩ K hK
       have e5 := V.at (zdq hd 5 rfl) rfl
       rw [if_pos (by simp [Region.wanted, yielded, e5])]
       go_wp2_with fail
       exact hK _ (.pointer (some ⟨w.heap.size + 1, 64, none⟩)) _ (by simp only [Act.put, pA, pB, pC, e5]) ⟨hB, hz, s0, s1, V.step 7 rfl⟩
     · intro L v W2 hd hn ⟨hB, hz, s0, s1, V⟩ K hK
       have e7 := V.at (zdq hd 7 rfl) rfl
       have e5 := V.at (zdq hd 5 rfl) rfl
       rw [if_pos (by simp [Region.wanted, yielded, e5])]
       refine wp_load_mid 23 _ rfl _ 64 e7 _ _ (s1.frb) Try.underlying23 rfl (by rw [zl]; exact Try.size23) ?_
       exact hK _ _ _ rfl ⟨hB, hz, s0, s1, V.step 8 rfl⟩
     · intro L v W2 hd hn ⟨hB, hz, s0, s1, V⟩ K hK
       have e6 := V.at (zdq hd 6 rfl) rfl
       have e8 := V.at (zdq hd 8 rfl) rfl
       have e5 := V.at (zdq hd 5 rfl) rfl
       rw [if_pos (by simp [Region.wanted, yielded, e5])]
       go_wp2_with (go_at_call 144; refine (HO2.out _).mono ?_; rintro e wy ⟨rfl, hy⟩)
       exact hK _ (.bool false) _ (by simp only [Act.put, pA, pB, pC, e6, e8, e5]) ⟨hB.trans (hy.mono hB.size), (Nat.le_trans hz hy.size), s0.zw hy, s1.zw hy, V.step 9 rfl⟩
     · intro L v W2 hd hn ⟨hB, hz, s0, s1, V⟩ K hK
       have e9 := V.at (zdq hd 9 rfl) rfl
       have e5 := V.at (zdq hd 5 rfl) rfl
       rw [if_pos (by simp [Region.wanted, yielded, e5])]
       go_wp2_with fail
       exact hK _ (.bool true) _ (by simp only [Act.put, pA, pB, pC, e9, e5]) ⟨hB, hz, s0, s1, V.step 10 rfl⟩
     · intro L v W2 hd hn ⟨hB, hz, s0, s1, V⟩ K hK
       have e5 := V.at (zdq hd 5 rfl) rfl
       have e10 := V.at (zdq hd 10 rfl) rfl
       rw [if_pos (by simp [Region.wanted])]
       go_wp2_with fail
       exact hK _ (.bool true) _ (by simp only [Act.put, pA, pB, pC, e5, e10]) ⟨hB, hz, s0, s1, V.step 11 rfl⟩
     · intro L v W2 hd hn ⟨hB, hz, s0, s1, V⟩ K hK
       have e11 := V.at (zdq hd 11 rfl) rfl
       rw [if_pos (by simp [Region.wanted])]
       go_wp2_with fail
       exact hK _ (.bool true) _ (by simp only [Act.put, pA, pB, pC, e11]) ⟨hB, hz, s0, s1, V.step 12 rfl⟩
     · intro L v W2 hd hn ⟨hB, hz, s0, s1, V⟩ K hK
       have e12 := V.at (zdq hd 12 rfl) rfl
       rw [if_neg (by simp [Region.wanted, yielded, e12])]
       exact hK _ undef _ rfl ⟨hB, hz, s0, s1, V.step 13 rfl⟩
     · intro L v W2 hd hn ⟨hB, hz, s0, s1, V⟩ K hK
       have e13 := V.at (zdq hd 13 rfl) rfl
       have e12 := V.at (zdq hd 12 rfl) rfl
       rw [if_neg (by simp [Region.wanted, yielded, e12])]
       exact hK _ undef _ rfl ⟨hB, hz, s0, s1, V.step 14 rfl⟩
     · intro L v W2 hd hn ⟨hB, hz, s0, s1, V⟩ K hK
       have e14 := V.at (zdq hd 14 rfl) rfl
       have e12 := V.at (zdq hd 12 rfl) rfl
       rw [if_neg (by simp [Region.wanted, yielded, e12])]
       exact hK _ undef _ rfl ⟨hB, hz, s0, s1, V.step 15 rfl⟩
     · intro L v W2 hd hn ⟨hB, hz, s0, s1, V⟩ K hK
       have e15 := V.at (zdq hd 15 rfl) rfl
       have e12 := V.at (zdq hd 12 rfl) rfl
       rw [if_neg (by simp [Region.wanted, yielded, e12])]
       exact hK _ undef _ rfl ⟨hB, hz, s0, s1, V.step 16 rfl⟩
     · intro L v W2 hd hn ⟨hB, hz, s0, s1, V⟩ K hK
       have e12 := V.at (zdq hd 12 rfl) rfl
       have e16 := V.at (zdq hd 16 rfl) rfl
       rw [if_pos (by simp [Region.wanted])]
       go_wp2_with fail
       exact hK _ (.bool true) _ (by simp only [Act.put, pA, pB, pC, e12, e16]) ⟨hB, hz, s0, s1, V.step 17 rfl⟩
     · intro L v W2 hd hn ⟨hB, hz, s0, s1, V⟩ K hK
       have e17 := V.at (zdq hd 17 rfl) rfl
       rw [if_pos (by simp [Region.wanted])]
       go_wp2_with fail
       exact hK _ (.bool true) _ (by simp only [Act.put, pA, pB, pC, e17]) ⟨hB, hz, s0, s1, V.step 18 rfl⟩
     · intro L v W2 hd hn ⟨hB, hz, s0, s1, V⟩ K hK
       have e18 := V.at (zdq hd 18 rfl) rfl
       rw [if_neg (by simp [Region.wanted, yielded, e18])]
       exact hK _ undef _ rfl ⟨hB, hz, s0, s1, V.step 19 rfl⟩
     · intro L v W2 hd hn ⟨hB, hz, s0, s1, V⟩ K hK
       have e19 := V.at (zdq hd 19 rfl) rfl
       have e18 := V.at (zdq hd 18 rfl) rfl
       rw [if_neg (by simp [Region.wanted, yielded, e18])]
       exact hK _ undef _ rfl ⟨hB, hz, s0, s1, V.step 20 rfl⟩
     · intro L v W2 hd hn ⟨hB, hz, s0, s1, V⟩ K hK
       have e20 := V.at (zdq hd 20 rfl) rfl
       have e18 := V.at (zdq hd 18 rfl) rfl
       rw [if_neg (by simp [Region.wanted, yielded, e18])]
       exact hK _ undef _ rfl ⟨hB, hz, s0, s1, V.step 21 rfl⟩
     · intro L v W2 hd hn ⟨hB, hz, s0, s1, V⟩ K hK
       have e21 := V.at (zdq hd 21 rfl) rfl
       have e18 := V.at (zdq hd 18 rfl) rfl
       rw [if_neg (by simp [Region.wanted, yielded, e18])]
       exact hK _ undef _ rfl ⟨hB, hz, s0, s1, V.step 22 rfl⟩
     · intro L v W2 hd hn ⟨hB, hz, s0, s1, V⟩ K hK
       have e18 := V.at (zdq hd 18 rfl) rfl
       have e22 := V.at (zdq hd 22 rfl) rfl
       rw [if_pos (by simp [Region.wanted])]
       go_wp2_with fail
       exact hK _ (.bool true) _ (by simp only [Act.put, pA, pB, pC, e18, e22]) ⟨hB, hz, s0, s1, V.step 23 rfl⟩
     · intro L v W2 hd hn ⟨hB, hz, s0, s1, V⟩ K hK
       have e23 := V.at (zdq hd 23 rfl) rfl
       rw [if_pos (by simp [Region.wanted])]
       go_wp2_with fail
       exact hK _ (.bool true) _ (by simp only [Act.put, pA, pB, pC, e23]) ⟨hB, hz, s0, s1, V.step 24 rfl⟩
     · intro L v W2 hd hn ⟨hB, hz, s0, s1, V⟩ K hK
       have e24 := V.at (zdq hd 24 rfl) rfl
       rw [if_neg (by simp [Region.wanted, yielded, e24])]
       exact hK _ undef _ rfl ⟨hB, hz, s0, s1, V.step 25 rfl⟩
     · intro L v W2 hd hn ⟨hB, hz, s0, s1, V⟩ K hK
       have e25 := V.at (zdq hd 25 rfl) rfl
       have e24 := V.at (zdq hd 24 rfl) rfl
       rw [if_neg (by simp [Region.wanted, yielded, e24])]
       exact hK _ undef _ rfl ⟨hB, hz, s0, s1, V.step 26 rfl⟩
     · intro L v W2 hd hn ⟨hB, hz, s0, s1, V⟩ K hK
       have e26 := V.at (zdq hd 26 rfl) rfl
       have e24 := V.at (zdq hd 24 rfl) rfl
       rw [if_neg (by simp [Region.wanted, yielded, e24])]
       exact hK _ undef _ rfl ⟨hB, hz, s0, s1, V.step 27 rfl⟩
     · intro L v W2 hd hn ⟨hB, hz, s0, s1, V⟩ K hK
       have e24 := V.at (zdq hd 24 rfl) rfl
       rw [if_neg (by simp [Region.wanted, yielded, e24])]
       exact hK _ undef _ rfl ⟨hB, hz, s0, s1, V.step 28 rfl⟩
     · intro L v W2 hd hn ⟨hB, hz, s0, s1, V⟩ K hK
       have e28 := V.at (zdq hd 28 rfl) rfl
       have e24 := V.at (zdq hd 24 rfl) rfl
       rw [if_neg (by simp [Region.wanted, yielded, e24])]
       exact hK _ undef _ rfl ⟨hB, hz, s0, s1, V.step 29 rfl⟩
     · intro L v W2 hd hn ⟨hB, hz, s0, s1, V⟩ K hK
       have e29 := V.at (zdq hd 29 rfl) rfl
       have e24 := V.at (zdq hd 24 rfl) rfl
       rw [if_neg (by simp [Region.wanted, yielded, e24])]
       exact hK _ undef _ rfl ⟨hB, hz, s0, s1, V.step 30 rfl⟩
     · intro L v W2 hd hn ⟨hB, hz, s0, s1, V⟩ K hK
       have e27 := V.at (zdq hd 27 rfl) rfl
       have e30 := V.at (zdq hd 30 rfl) rfl
       have e24 := V.at (zdq hd 24 rfl) rfl
       rw [if_neg (by simp [Region.wanted, yielded, e24])]
       exact hK _ undef _ rfl ⟨hB, hz, s0, s1, V.step 31 rfl⟩
     · intro L v W2 hd hn ⟨hB, hz, s0, s1, V⟩ K hK
       have e24 := V.at (zdq hd 24 rfl) rfl
       have e31 := V.at (zdq hd 31 rfl) rfl
       rw [if_pos (by simp [Region.wanted])]
       go_wp2_with fail
       exact hK _ (.bool true) _ (by simp only [Act.put, pA, pB, pC, e24, e31]) ⟨hB, hz, s0, s1, V.step 32 rfl⟩
   · intro L v W2 hL ⟨hB, hz, s0, s1, V⟩
     have e0 := V.at (hL 0 (by decide)) rfl
     have e1 := V.at (hL 1 (by decide)) rfl
     have e2 := V.at (hL 2 (by decide)) rfl
     have e3 := V.at (hL 3 (by decide)) rfl
     have e4 := V.at (hL 4 (by decide)) rfl
     have e5 := V.at (hL 5 (by decide)) rfl
     have e6 := V.at (hL 6 (by decide)) rfl
     have e7 := V.at (hL 7 (by decide)) rfl
     have e8 := V.at (hL 8 (by decide)) rfl
     have e9 := V.at (hL 9 (by decide)) rfl
     have e10 := V.at (hL 10 (by decide)) rfl
     have e11 := V.at (hL 11 (by decide)) rfl
     have e12 := V.at (hL 12 (by decide)) rfl
     have e13 := V.at (hL 13 (by decide)) rfl
     have e14 := V.at (hL 14 (by decide)) rfl
     have e15 := V.at (hL 15 (by decide)) rfl
     have e16 := V.at (hL 16 (by decide)) rfl
     have e17 := V.at (hL 17 (by decide)) rfl
     have e18 := V.at (hL 18 (by decide)) rfl
     have e19 := V.at (hL 19 (by decide)) rfl
     have e20 := V.at (hL 20 (by decide)) rfl
     have e21 := V.at (hL 21 (by decide)) rfl
     have e22 := V.at (hL 22 (by decide)) rfl
     have e23 := V.at (hL 23 (by decide)) rfl
     have e24 := V.at (hL 24 (by decide)) rfl
     have e25 := V.at (hL 25 (by decide)) rfl
     have e26 := V.at (hL 26 (by decide)) rfl
     have e27 := V.at (hL 27 (by decide)) rfl
     have e28 := V.at (hL 28 (by decide)) rfl
     have e29 := V.at (hL 29 (by decide)) rfl
     have e30 := V.at (hL 30 (by decide)) rfl
     have e31 := V.at (hL 31 (by decide)) rfl
     have e32 := V.at (hL 32 (by decide)) rfl
     clear hL V
     simp only [Exit.then, e0, e1, e2, e3, e4, e5, e6, e7, e8, e9, e10, e11, e12, e13, e14, e15, e16, e17, e18, e19, e20, e21, e22, e23, e24, e25, e26, e27, e28, e29, e30, e31, e32]
     clear e0 e1 e2 e3 e4 e5 e6 e7 e8 e9 e10 e11 e12 e13 e14 e15 e16 e17 e18 e19 e20 e21 e22 e23 e24 e25 e26 e27 e28 e29 e30 e31 e32
     replace B0 := s0
     clear s0
     replace B1 := s1
     clear s1
     replace hb := hB
     clear hB
     clear hbase hz lt_B0 lt_B1
     go_wp2_with fail
     go_ret
     exact ⟨by rw [HV.out]; rfl, hb⟩
  | true =>
   cases hmo : monB A with
   | false =>
    rw [ho1] at HO1
    rw [ho2] at HO2
    rw [hmo] at HMO
    have HV := Lib.hid (fmB_3 (p := (p : Int)) (D := D) (B := B) hmo)
    have lt_B0 : (w.heap.size) < W1.heap.size := B0.lt
    have lt_B1 : (w.heap.size + 1) < W1.heap.size := B1.lt
    have hbase : w.heap.size ≤ W1.heap.size := hb.size
    refine wp_region_stepsG Try.mixed (by kernel_rfl) (by kernel_rfl) (fun v => by (simp only [frL, Act.put, pA, pB, pC, Nat.reduceAdd, Nat.zero_add]; exact rfl))
     (fun L v W2 => Below w.heap.size w W2 ∧ W1.heap.size ≤ W2.heap.size ∧ Blk W2 (w.heap.size) 64 23 (D) ∧ Row W2 (w.heap.size + 1) 55 (frC A B).toArray ∧ VF L v [some (.int .i64 (p : Int)), some (.pointer (some ⟨w.heap.size + 1, 0, none⟩)), some (.agg (zb 64 (A))), some (.bool true), some (.bool false), some (.bool false), some (.int .i64 (p : Int)), some (.pointer (some ⟨w.heap.size + 1, 64, none⟩)), some (.agg (zb 64 (B))), some (.bool true), some (.bool false), some (.bool false), some (.bool false), some (.pointer (some ⟨w.heap.size + 1, 0, none⟩)), some (.agg (zb 64 (A))), some (.bool false), some (.bool true), some (.bool true), some (.bool true), some undef, some undef, some undef, some undef, some (.bool true), some (.bool true), some undef, some undef, some undef, some undef, some undef, some undef, some undef, some (.bool true)]) ?_ ?_ ?_
    · intro v hv0
      exact ⟨hb.drew, Nat.le_refl _, B0.drew, B1.drew, VF.start⟩
    · refine (.cons ?_ (.cons ?_ (.cons ?_ (.cons ?_ (.cons ?_ (.cons ?_ (.cons ?_ (.cons ?_ (.cons ?_ (.cons ?_ (.cons ?_ (.cons ?_ (.cons ?_ (.cons ?_ (.cons ?_ (.cons ?_ (.cons ?_ (.cons ?_ (.cons ?_ (.cons ?_ (.cons ?_ (.cons ?_ (.cons ?_ (.cons ?_ (.cons ?_ (.cons ?_ (.cons ?_ (.cons ?_ (.cons ?_ (.cons ?_ (.cons ?_ (.cons ?_ (.cons ?_ (.nil _))))))))))))))))))))))))))))))))))
      · intro L v W2 hd hn ⟨hB, hz, s0, s1, V⟩ K hK
        rw [if_pos (by simp [Region.wanted])]
        go_wp2_with fail
        exact hK _ (.int .i64 (p : Int)) _ (by simp only [Act.put, pA, pB, pC ]) ⟨hB, hz, s0, s1, V.step 0 rfl⟩
      · intro L v W2 hd hn ⟨hB, hz, s0, s1, V⟩ K hK
        rw [if_pos (by simp [Region.wanted])]
        go_wp2_with fail
        exact hK _ (.pointer (some ⟨w.heap.size + 1, 0, none⟩)) _ (by simp only [Act.put, pA, pB, pC ]) ⟨hB, hz, s0, s1, V.step 1 rfl⟩
      · intro L v W2 hd hn ⟨hB, hz, s0, s1, V⟩ K hK
        have e1 := V.at (zdq hd 1 rfl) rfl
        rw [if_pos (by simp [Region.wanted])]
        refine wp_load_mid 23 _ rfl _ 0 e1 _ _ (s1.fra) Try.underlying23 rfl (by rw [zl]; exact Try.size23) ?_
        exact hK _ _ _ rfl ⟨hB, hz, s0, s1, V.step 2 rfl⟩
      · intro L v W2 hd hn ⟨hB, hz, s0, s1, V⟩ K hK
        have e0 := V.at (zdq hd 0 rfl) rfl
        have e2 := V.at (zdq hd 2 rfl) rfl
        rw [if_pos (by simp [Region.wanted])]
        go_wp2_with (go_at_call 144; refine (HO1.out _).mono ?_; rintro e wy ⟨rfl, hy⟩)
        exact hK _ (.bool true) _ (by simp only [Act.put, pA, pB, pC, e0, e2]) ⟨hB.trans (hy.mono hB.size), (Nat.le_trans hz hy.size), s0.zw hy, s1.zw hy, V.step 3 rfl⟩
      · intro L v W2 hd hn ⟨hB, hz, s0, s1, V⟩ K hK
        have e3 := V.at (zdq hd 3 rfl) rfl
        rw [if_pos (by simp [Region.wanted])]
        go_wp2_with fail
        exact hK _ (.bool false) _ (by simp only [Act.put, pA, pB, pC, e3]) ⟨hB, hz, s0, s1, V.step 4 rfl⟩
      · intro L v W2 hd hn ⟨hB, hz, s0, s1, V⟩ K hK
        have e4 := V.at (zdq hd 4 rfl) rfl
        rw [if_pos (by simp [Region.wanted])]
        go_wp2_with fail
        exact hK _ (.bool false) _ (by simp only [Act.put, pA, pB, pC, e4]) ⟨hB, hz, s0, s1, V.step 5 rfl⟩
      · intro L v W2 hd hn ⟨hB, hz, s0, s1, V⟩ K hK
        have e5 := V.at (zdq hd 5 rfl) rfl
        rw [if_pos (by simp [Region.wanted, yielded, e5])]
        go_wp2_with fail
        exact hK _ (.int .i64 (p : Int)) _ (by simp only [Act.put, pA, pB, pC, e5]) ⟨hB, hz, s0, s1, V.step 6 rfl⟩
      · intro L v W2 hd hn ⟨hB, hz, s0, s1, V⟩ K hK
        have e5 := V.at (zdq hd 5 rfl) rfl
        rw [if_pos (by simp [Region.wanted, yielded, e5])]
        go_wp2_with fail
        exact hK _ (.pointer (some ⟨w.heap.size + 1, 64, none⟩)) _ (by simp only [Act.put, pA, pB, pC, e5]) ⟨hB, hz, s0, s1, V.step 7 rfl⟩
      · intro L v W2 hd hn ⟨hB, hz, s0, s1, V⟩ K hK
        have e7 := V.at (zdq hd 7 rfl) rfl
        have e5 := V.at (zdq hd 5 rfl) rfl
        rw [if_pos (by simp [Region.wanted, yielded, e5])]
        refine wp_load_mid 23 _ rfl _ 64 e7 _ _ (s1.frb) Try.underlying23 rfl (by rw [zl]; exact Try.size23) ?_
        exact hK _ _ _ rfl ⟨hB, hz, s0, s1, V.step 8 rfl⟩
      · intro L v W2 hd hn ⟨hB, hz, s0, s1, V⟩ K hK
        have e6 := V.at (zdq hd 6 rfl) rfl
        have e8 := V.at (zdq hd 8 rfl) rfl
        have e5 := V.at (zdq hd 5 rfl) rfl
        rw [if_pos (by simp [Region.wanted, yielded, e5])]
        go_wp2_with (go_at_call 144; refine (HO2.out _).mono ?_; rintro e wy ⟨rfl, hy⟩)
        exact hK _ (.bool true) _ (by simp only [Act.put, pA, pB, pC, e6, e8, e5]) ⟨hB.trans (hy.mono hB.size), (Nat.le_trans hz hy.size), s0.zw hy, s1.zw hy, V.step 9 rfl⟩
      · intro L v W2 hd hn ⟨hB, hz, s0, s1, V⟩ K hK
        have e9 := V.at (zdq hd 9 rfl) rfl
        have e5 := V.at (zdq hd 5 rfl) rfl
        rw [if_pos (by simp [Region.wanted, yielded, e5])]
        go_wp2_with fail
        exact hK _ (.bool false) _ (by simp only [Act.put, pA, pB, pC, e9, e5]) ⟨hB, hz, s0, s1, V.step 10 rfl⟩
      · intro L v W2 hd hn ⟨hB, hz, s0, s1, V⟩ K hK
        have e5 := V.at (zdq hd 5 rfl) rfl
        have e10 := V.at (zdq hd 10 rfl) rfl
        rw [if_pos (by simp [Region.wanted])]
        go_wp2_with fail
        exact hK _ (.bool false) _ (by simp only [Act.put, pA, pB, pC, e5, e10]) ⟨hB, hz, s0, s1, V.step 11 rfl⟩
      · intro L v W2 hd hn ⟨hB, hz, s0, s1, V⟩ K hK
        have e11 := V.at (zdq hd 11 rfl) rfl
        rw [if_pos (by simp [Region.wanted])]
        go_wp2_with fail
        exact hK _ (.bool false) _ (by simp only [Act.put, pA, pB, pC, e11]) ⟨hB, hz, s0, s1, V.step 12 rfl⟩
      · intro L v W2 hd hn ⟨hB, hz, s0, s1, V⟩ K hK
        have e12 := V.at (zdq hd 12 rfl) rfl
        rw [if_pos (by simp [Region.wanted, yielded, e12])]
        go_wp2_with fail
        exact hK _ (.pointer (some ⟨w.heap.size + 1, 0, none⟩)) _ (by simp only [Act.put, pA, pB, pC, e12]) ⟨hB, hz, s0, s1, V.step 13 rfl⟩
      · intro L v W2 hd hn ⟨hB, hz, s0, s1, V⟩ K hK
        have e13 := V.at (zdq hd 13 rfl) rfl
        have e12 := V.at (zdq hd 12 rfl) rfl
        rw [if_pos (by simp [Region.wanted, yielded, e12])]
        refine wp_load_mid 23 _ rfl _ 0 e13 _ _ (s1.fra) Try.underlying23 rfl (by rw [zl]; exact Try.size23) ?_
        exact hK _ _ _ rfl ⟨hB, hz, s0, s1, V.step 14 rfl⟩
      · intro L v W2 hd hn ⟨hB, hz, s0, s1, V⟩ K hK
        have e14 := V.at (zdq hd 14 rfl) rfl
        have e12 := V.at (zdq hd 12 rfl) rfl
        rw [if_pos (by simp [Region.wanted, yielded, e12])]
        go_wp2_with (go_at_call 104; refine (HMO.out _).mono ?_; rintro e wy ⟨rfl, hy⟩)
        exact hK _ (.bool false) _ (by simp only [Act.put, pA, pB, pC, e14, e12]) ⟨hB.trans (hy.mono hB.size), (Nat.le_trans hz hy.size), s0.zw hy, s1.zw hy, V.step 15 rfl⟩
      · intro L v W2 hd hn ⟨hB, hz, s0, s1, V⟩ K hK
        have e15 := V.at (zdq hd 15 rfl) rfl
        have e12 := V.at (zdq hd 12 rfl) rfl
        rw [if_pos (by simp [Region.wanted, yielded, e12])]
        go_wp2_with fail
        exact hK _ (.bool true) _ (by simp only [Act.put, pA, pB, pC, e15, e12]) ⟨hB, hz, s0, s1, V.step 16 rfl⟩
      · intro L v W2 hd hn ⟨hB, hz, s0, s1, V⟩ K hK
        have e12 := V.at (zdq hd 12 rfl) rfl
        have e16 := V.at (zdq hd 16 rfl) rfl
        rw [if_pos (by simp [Region.wanted])]
        go_wp2_with fail
        exact hK _ (.bool true) _ (by simp only [Act.put, pA, pB, pC, e12, e16]) ⟨hB, hz, s0, s1, V.step 17 rfl⟩
      · intro L v W2 hd hn ⟨hB, hz, s0, s1, V⟩ K hK
        have e17 := V.at (zdq hd 17 rfl) rfl
        rw [if_pos (by simp [Region.wanted])]
        go_wp2_with fail
        exact hK _ (.bool true) _ (by simp only [Act.put, pA, pB, pC, e17]) ⟨hB, hz, s0, s1, V.step 18 rfl⟩
      · intro L v W2 hd hn ⟨hB, hz, s0, s1, V⟩ K hK
        have e18 := V.at (zdq hd 18 rfl) rfl
        rw [if_neg (by simp [Region.wanted, yielded, e18])]
        exact hK _ undef _ rfl ⟨hB, hz, s0, s1, V.step 19 rfl⟩
      · intro L v W2 hd hn ⟨hB, hz, s0, s1, V⟩ K hK
        have e19 := V.at (zdq hd 19 rfl) rfl
        have e18 := V.at (zdq hd 18 rfl) rfl
        rw [if_neg (by simp [Region.wanted, yielded, e18])]
        exact hK _ undef _ rfl ⟨hB, hz, s0, s1, V.step 20 rfl⟩
      · intro L v W2 hd hn ⟨hB, hz, s0, s1, V⟩ K hK
        have e20 := V.at (zdq hd 20 rfl) rfl
        have e18 := V.at (zdq hd 18 rfl) rfl
        rw [if_neg (by simp [Region.wanted, yielded, e18])]
        exact hK _ undef _ rfl ⟨hB, hz, s0, s1, V.step 21 rfl⟩
      · intro L v W2 hd hn ⟨hB, hz, s0, s1, V⟩ K hK
        have e21 := V.at (zdq hd 21 rfl) rfl
        have e18 := V.at (zdq hd 18 rfl) rfl
        rw [if_neg (by simp [Region.wanted, yielded, e18])]
        exact hK _ undef _ rfl ⟨hB, hz, s0, s1, V.step 22 rfl⟩
      · intro L v W2 hd hn ⟨hB, hz, s0, s1, V⟩ K hK
        have e18 := V.at (zdq hd 18 rfl) rfl
        have e22 := V.at (zdq hd 22 rfl) rfl
        rw [if_pos (by simp [Region.wanted])]
        go_wp2_with fail
        exact hK _ (.bool true) _ (by simp only [Act.put, pA, pB, pC, e18, e22]) ⟨hB, hz, s0, s1, V.step 23 rfl⟩
      · intro L v W2 hd hn ⟨hB, hz, s0, s1, V⟩ K hK
        have e23 := V.at (zdq hd 23 rfl) rfl
        rw [if_pos (by simp [Region.wanted])]
        go_wp2_with fail
        exact hK _ (.bool true) _ (by simp only [Act.put, pA, pB, pC, e23]) ⟨hB, hz, s0, s1, V.step 24 rfl⟩
      · intro L v W2 hd hn ⟨hB, hz, s0, s1, V⟩ K hK
        have e24 := V.at (zdq hd 24 rfl) rfl
        rw [if_neg (by simp [Region.wanted, yielded, e24])]
        exact hK _ undef _ rfl ⟨hB, hz, s0, s1, V.step 25 rfl⟩
      · intro L v W2 hd hn ⟨hB, hz, s0, s1, V⟩ K hK
        have e25 := V.at (zdq hd 25 rfl) rfl
        have e24 := V.at (zdq hd 24 rfl) rfl
        rw [if_neg (by simp [Region.wanted, yielded, e24])]
        exact hK _ undef _ rfl ⟨hB, hz, s0, s1, V.step 26 rfl⟩
      · intro L v W2 hd hn ⟨hB, hz, s0, s1, V⟩ K hK
        have e26 := V.at (zdq hd 26 rfl) rfl
        have e24 := V.at (zdq hd 24 rfl) rfl
        rw [if_neg (by simp [Region.wanted, yielded, e24])]
        exact hK _ undef _ rfl ⟨hB, hz, s0, s1, V.step 27 rfl⟩
      · intro L v W2 hd hn ⟨hB, hz, s0, s1, V⟩ K hK
        have e24 := V.at (zdq hd 24 rfl) rfl
        rw [if_neg (by simp [Region.wanted, yielded, e24])]
        exact hK _ undef _ rfl ⟨hB, hz, s0, s1, V.step 28 rfl⟩
      · intro L v W2 hd hn ⟨hB, hz, s0, s1, V⟩ K hK
        have e28 := V.at (zdq hd 28 rfl) rfl
        have e24 := V.at (zdq hd 24 rfl) rfl
        rw [if_neg (by simp [Region.wanted, yielded, e24])]
        exact hK _ undef _ rfl ⟨hB, hz, s0, s1, V.step 29 rfl⟩
      · intro L v W2 hd hn ⟨hB, hz, s0, s1, V⟩ K hK
        have e29 := V.at (zdq hd 29 rfl) rfl
        have e24 := V.at (zdq hd 24 rfl) rfl
        rw [if_neg (by simp [Region.wanted, yielded, e24])]
        exact hK _ undef _ rfl ⟨hB, hz, s0, s1, V.step 30 rfl⟩
      · intro L v W2 hd hn ⟨hB, hz, s0, s1, V⟩ K hK
        have e27 := V.at (zdq hd 27 rfl) rfl
        have e30 := V.at (zdq hd 30 rfl) rfl
        have e24 := V.at (zdq hd 24 rfl) rfl
        rw [if_neg (by simp [Region.wanted, yielded, e24])]
        exact hK _ undef _ rfl ⟨hB, hz, s0, s1, V.step 31 rfl⟩
      · intro L v W2 hd hn ⟨hB, hz, s0, s1, V⟩ K hK
        have e24 := V.at (zdq hd 24 rfl) rfl
        have e31 := V.at (zdq hd 31 rfl) rfl
        rw [if_pos (by simp [Region.wanted])]
        go_wp2_with fail
        exact hK _ (.bool true) _ (by simp only [Act.put, pA, pB, pC, e24, e31]) ⟨hB, hz, s0, s1, V.step 32 rfl⟩
    · intro L v W2 hL ⟨hB, hz, s0, s1, V⟩
      have e0 := V.at (hL 0 (by decide)) rfl
      have e1 := V.at (hL 1 (by decide)) rfl
      have e2 := V.at (hL 2 (by decide)) rfl
      have e3 := V.at (hL 3 (by decide)) rfl
      have e4 := V.at (hL 4 (by decide)) rfl
      have e5 := V.at (hL 5 (by decide)) rfl
      have e6 := V.at (hL 6 (by decide)) rfl
      have e7 := V.at (hL 7 (by decide)) rfl
      have e8 := V.at (hL 8 (by decide)) rfl
      have e9 := V.at (hL 9 (by decide)) rfl
      have e10 := V.at (hL 10 (by decide)) rfl
      have e11 := V.at (hL 11 (by decide)) rfl
      have e12 := V.at (hL 12 (by decide)) rfl
      have e13 := V.at (hL 13 (by decide)) rfl
      have e14 := V.at (hL 14 (by decide)) rfl
      have e15 := V.at (hL 15 (by decide)) rfl
      have e16 := V.at (hL 16 (by decide)) rfl
      have e17 := V.at (hL 17 (by decide)) rfl
      have e18 := V.at (hL 18 (by decide)) rfl
      have e19 := V.at (hL 19 (by decide)) rfl
      have e20 := V.at (hL 20 (by decide)) rfl
      have e21 := V.at (hL 21 (by decide)) rfl
      have e22 := V.at (hL 22 (by decide)) rfl
      have e23 := V.at (hL 23 (by decide)) rfl
      have e24 := V.at (hL 24 (by decide)) rfl
      have e25 := V.at (hL 25 (by decide)) rfl
      have e26 := V.at (hL 26 (by decide)) rfl
      have e27 := V.at (hL 27 (by decide)) rfl
      have e28 := V.at (hL 28 (by decide)) rfl
      have e29 := V.at (hL 29 (by decide)) rfl
      have e30 := V.at (hL 30 (by decide)) rfl
      have e31 := V.at (hL 31 (by decide)) rfl
      have e32 := V.at (hL 32 (by decide)) rfl
      clear hL V
      simp only [Exit.then, e0, e1, e2, e3, e4, e5, e6, e7, e8, e9, e10, e11, e12, e13, e14, e15, e16, e17, e18, e19, e20, e21, e22, e23, e24, e25, e26, e27, e28, e29, e30, e31, e32]
      clear e0 e1 e2 e3 e4 e5 e6 e7 e8 e9 e10 e11 e12 e13 e14 e15 e16 e17 e18 e19 e20 e21 e22 e23 e24 e25 e26 e27 e28 e29 e30 e31 e32
      replace B0 := s0
      clear s0
      replace B1 := s1
      clear s1
      replace hb := hB
      clear hB
      clear hbase hz lt_B0 lt_B1
      go_wp2_with fail
      go_ret
      exact ⟨by rw [HV.out]; rfl, hb⟩
   | true =>
    rw [ho1] at HO1
    rw [ho2] at HO2
    rw [hmo] at HMO
    by_cases h12 : deg A ≤ 12
    · by_cases hBA : deg B < deg A
      · have lA : ∀ k, k < 64 → A k < p := fun k hk => by have := okA_lt ho1 hk; omega
        have lB : ∀ k, k < 64 → B k < p := fun k hk => by have := okA_lt ho2 hk; omega
        obtain ⟨d, hm⟩ := monB_at2 hmo
        have h0 : 0 ≤ deg A := by rw [hm.1]; omega
        have HSQ := Lib.hid (fun W => l07Square_any p D B W (by omega) (by omega) lD lB (by omega))
        have HMD := Lib.hid (fun W => l01Mod_any p (addK p (prd p B B) D (-1)) A W hpr (fun k _ => addK_lt (by omega) k) lA h0)
        have HDR := Lib.hid (fun W => l01Deg_any (resP p (addK p (prd p B B) D (-1)) A) W)
        have HE := Lib.hid (show decide (deg (resP p (addK p (prd p B B) D (-1)) A) < 0) = decide (deg (resP p (sqP p D B) A) < 0) from decide_eq_decide.2 (has_same hpr lD lA h0))
        have HV := Lib.hid (fmB_v (D := D) ho1 ho2 hmo h12 hBA)
        have lt_B0 : (w.heap.size) < W1.heap.size := B0.lt
        have lt_B1 : (w.heap.size + 1) < W1.heap.size := B1.lt
        have hbase : w.heap.size ≤ W1.heap.size := hb.size
        refine wp_region_stepsG Try.mixed (by kernel_rfl) (by kernel_rfl) (fun v => by (simp only [frL, Act.put, pA, pB, pC, Nat.reduceAdd, Nat.zero_add]; exact rfl))
         (fun L v W2 => Below w.heap.size w W2 ∧ W1.heap.size ≤ W2.heap.size ∧ Blk W2 (w.heap.size) 64 23 (D) ∧ Row W2 (w.heap.size + 1) 55 (frC A B).toArray ∧ VF L v [some (.int .i64 (p : Int)), some (.pointer (some ⟨w.heap.size + 1, 0, none⟩)), some (.agg (zb 64 (A))), some (.bool true), some (.bool false), some (.bool false), some (.int .i64 (p : Int)), some (.pointer (some ⟨w.heap.size + 1, 64, none⟩)), some (.agg (zb 64 (B))), some (.bool true), some (.bool false), some (.bool false), some (.bool false), some (.pointer (some ⟨w.heap.size + 1, 0, none⟩)), some (.agg (zb 64 (A))), some (.bool true), some (.bool false), some (.bool false), some (.bool false), some (.pointer (some ⟨w.heap.size + 1, 0, none⟩)), some (.agg (zb 64 (A))), some (.int .i64 (deg A)), some (.bool false), some (.bool false), some (.bool false), some (.pointer (some ⟨w.heap.size + 1, 64, none⟩)), some (.agg (zb 64 (B))), some (.int .i64 (deg B)), some (.pointer (some ⟨w.heap.size + 1, 0, none⟩)), some (.agg (zb 64 (A))), some (.int .i64 (deg A)), some (.bool false), some (.bool false)]) ?_ ?_ ?_
        · intro v hv0
          exact ⟨hb.drew, Nat.le_refl _, B0.drew, B1.drew, VF.start⟩
        · refine (.cons ?_ (.cons ?_ (.cons ?_ (.cons ?_ (.cons ?_ (.cons ?_ (.cons ?_ (.cons ?_ (.cons ?_ (.cons ?_ (.cons ?_ (.cons ?_ (.cons ?_ (.cons ?_ (.cons ?_ (.cons ?_ (.cons ?_ (.cons ?_ (.cons ?_ (.cons ?_ (.cons ?_ (.cons ?_ (.cons ?_ (.cons ?_ (.cons ?_ (.cons ?_ (.cons ?_ (.cons ?_ (.cons ?_ (.cons ?_ (.cons ?_ (.cons ?_ (.cons ?_ (.nil _))))))))))))))))))))))))))))))))))
          · intro L v W2 hd hn ⟨hB, hz, s0, s1, V⟩ K hK
            rw [if_pos (by simp [Region.wanted])]
            go_wp2_with fail
            exact hK _ (.int .i64 (p : Int)) _ (by simp only [Act.put, pA, pB, pC ]) ⟨hB, hz, s0, s1, V.step 0 rfl⟩
          · intro L v W2 hd hn ⟨hB, hz, s0, s1, V⟩ K hK
            rw [if_pos (by simp [Region.wanted])]
            go_wp2_with fail
            exact hK _ (.pointer (some ⟨w.heap.size + 1, 0, none⟩)) _ (by simp only [Act.put, pA, pB, pC ]) ⟨hB, hz, s0, s1, V.step 1 rfl⟩
          · intro L v W2 hd hn ⟨hB, hz, s0, s1, V⟩ K hK
            have e1 := V.at (zdq hd 1 rfl) rfl
            rw [if_pos (by simp [Region.wanted])]
            refine wp_load_mid 23 _ rfl _ 0 e1 _ _ (s1.fra) Try.underlying23 rfl (by rw [zl]; exact Try.size23) ?_
            exact hK _ _ _ rfl ⟨hB, hz, s0, s1, V.step 2 rfl⟩
          · intro L v W2 hd hn ⟨hB, hz, s0, s1, V⟩ K hK
            have e0 := V.at (zdq hd 0 rfl) rfl
            have e2 := V.at (zdq hd 2 rfl) rfl
            rw [if_pos (by simp [Region.wanted])]
            go_wp2_with (go_at_call 144; refine (HO1.out _).mono ?_; rintro e wy ⟨rfl, hy⟩)
            exact hK _ (.bool true) _ (by simp only [Act.put, pA, pB, pC, e0, e2]) ⟨hB.trans (hy.mono hB.size), (Nat.le_trans hz hy.size), s0.zw hy, s1.zw hy, V.step 3 rfl⟩
          · intro L v W2 hd hn ⟨hB, hz, s0, s1, V⟩ K hK
            have e3 := V.at (zdq hd 3 rfl) rfl
            rw [if_pos (by simp [Region.wanted])]
            go_wp2_with fail
            exact hK _ (.bool false) _ (by simp only [Act.put, pA, pB, pC, e3]) ⟨hB, hz, s0, s1, V.step 4 rfl⟩
          · intro L v W2 hd hn ⟨hB, hz, s0, s1, V⟩ K hK
            have e4 := V.at (zdq hd 4 rfl) rfl
            rw [if_pos (by simp [Region.wanted])]
            go_wp2_with fail
            exact hK _ (.bool false) _ (by simp only [Act.put, pA, pB, pC, e4]) ⟨hB, hz, s0, s1, V.step 5 rfl⟩
          · intro L v W2 hd hn ⟨hB, hz, s0, s1, V⟩ K hK
            have e5 := V.at (zdq hd 5 rfl) rfl
            rw [if_pos (by simp [Region.wanted, yielded, e5])]
            go_wp2_with fail
            exact hK _ (.int .i64 (p : Int)) _ (by simp only [Act.put, pA, pB, pC, e5]) ⟨hB, hz, s0, s1, V.step 6 rfl⟩
          · intro L v W2 hd hn ⟨hB, hz, s0, s1, V⟩ K hK
            have e5 := V.at (zdq hd 5 rfl) rfl
            rw [if_pos (by simp [Region.wanted, yielded, e5])]
            go_wp2_with fail
            exact hK _ (.pointer (some ⟨w.heap.size + 1, 64, none⟩)) _ (by simp only [Act.put, pA, pB, pC, e5]) ⟨hB, hz, s0, s1, V.step 7 rfl⟩
          · intro L v W2 hd hn ⟨hB, hz, s0, s1, V⟩ K hK
            have e7 := V.at (zdq hd 7 rfl) rfl
            have e5 := V.at (zdq hd 5 rfl) rfl
            rw [if_pos (by simp [Region.wanted, yielded, e5])]
            refine wp_load_mid 23 _ rfl _ 64 e7 _ _ (s1.frb) Try.underlying23 rfl (by rw [zl]; exact Try.size23) ?_
            exact hK _ _ _ rfl ⟨hB, hz, s0, s1, V.step 8 rfl⟩
          · intro L v W2 hd hn ⟨hB, hz, s0, s1, V⟩ K hK
            have e6 := V.at (zdq hd 6 rfl) rfl
            have e8 := V.at (zdq hd 8 rfl) rfl
            have e5 := V.at (zdq hd 5 rfl) rfl
            rw [if_pos (by simp [Region.wanted, yielded, e5])]
            go_wp2_with (go_at_call 144; refine (HO2.out _).mono ?_; rintro e wy ⟨rfl, hy⟩)
            exact hK _ (.bool true) _ (by simp only [Act.put, pA, pB, pC, e6, e8, e5]) ⟨hB.trans (hy.mono hB.size), (Nat.le_trans hz hy.size), s0.zw hy, s1.zw hy, V.step 9 rfl⟩
          · intro L v W2 hd hn ⟨hB, hz, s0, s1, V⟩ K hK
            have e9 := V.at (zdq hd 9 rfl) rfl
            have e5 := V.at (zdq hd 5 rfl) rfl
            rw [if_pos (by simp [Region.wanted, yielded, e5])]
            go_wp2_with fail
            exact hK _ (.bool false) _ (by simp only [Act.put, pA, pB, pC, e9, e5]) ⟨hB, hz, s0, s1, V.step 10 rfl⟩
          · intro L v W2 hd hn ⟨hB, hz, s0, s1, V⟩ K hK
            have e5 := V.at (zdq hd 5 rfl) rfl
            have e10 := V.at (zdq hd 10 rfl) rfl
            rw [if_pos (by simp [Region.wanted])]
            go_wp2_with fail
            exact hK _ (.bool false) _ (by simp only [Act.put, pA, pB, pC, e5, e10]) ⟨hB, hz, s0, s1, V.step 11 rfl⟩
          · intro L v W2 hd hn ⟨hB, hz, s0, s1, V⟩ K hK
            have e11 := V.at (zdq hd 11 rfl) rfl
            rw [if_pos (by simp [Region.wanted])]
            go_wp2_with fail
            exact hK _ (.bool false) _ (by simp only [Act.put, pA, pB, pC, e11]) ⟨hB, hz, s0, s1, V.step 12 rfl⟩
          · intro L v W2 hd hn ⟨hB, hz, s0, s1, V⟩ K hK
            have e12 := V.at (zdq hd 12 rfl) rfl
            rw [if_pos (by simp [Region.wanted, yielded, e12])]
            go_wp2_with fail
            exact hK _ (.pointer (some ⟨w.heap.size + 1, 0, none⟩)) _ (by simp only [Act.put, pA, pB, pC, e12]) ⟨hB, hz, s0, s1, V.step 13 rfl⟩
          · intro L v W2 hd hn ⟨hB, hz, s0, s1, V⟩ K hK
            have e13 := V.at (zdq hd 13 rfl) rfl
            have e12 := V.at (zdq hd 12 rfl) rfl
            rw [if_pos (by simp [Region.wanted, yielded, e12])]
            refine wp_load_mid 23 _ rfl _ 0 e13 _ _ (s1.fra) Try.underlying23 rfl (by rw [zl]; exact Try.size23) ?_
            exact hK _ _ _ rfl ⟨hB, hz, s0, s1, V.step 14 rfl⟩
          · intro L v W2 hd hn ⟨hB, hz, s0, s1, V⟩ K hK
            have e14 := V.at (zdq hd 14 rfl) rfl
            have e12 := V.at (zdq hd 12 rfl) rfl
            rw [if_pos (by simp [Region.wanted, yielded, e12])]
            go_wp2_with (go_at_call 104; refine (HMO.out _).mono ?_; rintro e wy ⟨rfl, hy⟩)
            exact hK _ (.bool true) _ (by simp only [Act.put, pA, pB, pC, e14, e12]) ⟨hB.trans (hy.mono hB.size), (Nat.le_trans hz hy.size), s0.zw hy, s1.zw hy, V.step 15 rfl⟩
          · intro L v W2 hd hn ⟨hB, hz, s0, s1, V⟩ K hK
            have e15 := V.at (zdq hd 15 rfl) rfl
            have e12 := V.at (zdq hd 12 rfl) rfl
            rw [if_pos (by simp [Region.wanted, yielded, e12])]
            go_wp2_with fail
            exact hK _ (.bool false) _ (by simp only [Act.put, pA, pB, pC, e15, e12]) ⟨hB, hz, s0, s1, V.step 16 rfl⟩
          · intro L v W2 hd hn ⟨hB, hz, s0, s1, V⟩ K hK
            have e12 := V.at (zdq hd 12 rfl) rfl
            have e16 := V.at (zdq hd 16 rfl) rfl
            rw [if_pos (by simp [Region.wanted])]
            go_wp2_with fail
            exact hK _ (.bool false) _ (by simp only [Act.put, pA, pB, pC, e12, e16]) ⟨hB, hz, s0, s1, V.step 17 rfl⟩
          · intro L v W2 hd hn ⟨hB, hz, s0, s1, V⟩ K hK
            have e17 := V.at (zdq hd 17 rfl) rfl
            rw [if_pos (by simp [Region.wanted])]
            go_wp2_with fail
            exact hK _ (.bool false) _ (by simp only [Act.put, pA, pB, pC, e17]) ⟨hB, hz, s0, s1, V.step 18 rfl⟩
          · intro L v W2 hd hn ⟨hB, hz, s0, s1, V⟩ K hK
            have e18 := V.at (zdq hd 18 rfl) rfl
            rw [if_pos (by simp [Region.wanted, yielded, e18])]
            go_wp2_with fail
            exact hK _ (.pointer (some ⟨w.heap.size + 1, 0, none⟩)) _ (by simp only [Act.put, pA, pB, pC, e18]) ⟨hB, hz, s0, s1, V.step 19 rfl⟩
          · intro L v W2 hd hn ⟨hB, hz, s0, s1, V⟩ K hK
            have e19 := V.at (zdq hd 19 rfl) rfl
            have e18 := V.at (zdq hd 18 rfl) rfl
            rw [if_pos (by simp [Region.wanted, yielded, e18])]
            refine wp_load_mid 23 _ rfl _ 0 e19 _ _ (s1.fra) Try.underlying23 rfl (by rw [zl]; exact Try.size23) ?_
            exact hK _ _ _ rfl ⟨hB, hz, s0, s1, V.step 20 rfl⟩
          · intro L v W2 hd hn ⟨hB, hz, s0, s1, V⟩ K hK
            have e20 := V.at (zdq hd 20 rfl) rfl
            have e18 := V.at (zdq hd 18 rfl) rfl
            rw [if_pos (by simp [Region.wanted, yielded, e18])]
            go_wp2_with (go_at_call 88; refine (HDA.out _).mono ?_; rintro e wy ⟨rfl, hy⟩)
            exact hK _ (.int .i64 (deg A)) _ (by simp only [Act.put, pA, pB, pC, e20, e18]) ⟨hB.trans (hy.mono hB.size), (Nat.le_trans hz hy.size), s0.zw hy, s1.zw hy, V.step 21 rfl⟩
          · intro L v W2 hd hn ⟨hB, hz, s0, s1, V⟩ K hK
            have e21 := V.at (zdq hd 21 rfl) rfl
            have e18 := V.at (zdq hd 18 rfl) rfl
            rw [if_pos (by simp [Region.wanted, yielded, e18])]
            go_wp2_with fail
            try rw [show decide ((12 : Int) < deg A) = false by simp; omega]
            try rw [show decide (deg A > (12 : Int)) = false by simp; omega]
            exact hK _ (.bool false) _ (by simp only [Act.put, pA, pB, pC, e21, e18]) ⟨hB, hz, s0, s1, V.step 22 rfl⟩
          · intro L v W2 hd hn ⟨hB, hz, s0, s1, V⟩ K hK
            have e18 := V.at (zdq hd 18 rfl) rfl
            have e22 := V.at (zdq hd 22 rfl) rfl
            rw [if_pos (by simp [Region.wanted])]
            go_wp2_with fail
            exact hK _ (.bool false) _ (by simp only [Act.put, pA, pB, pC, e18, e22]) ⟨hB, hz, s0, s1, V.step 23 rfl⟩
          · intro L v W2 hd hn ⟨hB, hz, s0, s1, V⟩ K hK
            have e23 := V.at (zdq hd 23 rfl) rfl
            rw [if_pos (by simp [Region.wanted])]
            go_wp2_with fail
            exact hK _ (.bool false) _ (by simp only [Act.put, pA, pB, pC, e23]) ⟨hB, hz, s0, s1, V.step 24 rfl⟩
          · intro L v W2 hd hn ⟨hB, hz, s0, s1, V⟩ K hK
            have e24 := V.at (zdq hd 24 rfl) rfl
            rw [if_pos (by simp [Region.wanted, yielded, e24])]
            go_wp2_with fail
            exact hK _ (.pointer (some ⟨w.heap.size + 1, 64, none⟩)) _ (by simp only [Act.put, pA, pB, pC, e24]) ⟨hB, hz, s0, s1, V.step 25 rfl⟩
          · intro L v W2 hd hn ⟨hB, hz, s0, s1, V⟩ K hK
            have e25 := V.at (zdq hd 25 rfl) rfl
            have e24 := V.at (zdq hd 24 rfl) rfl
            rw [if_pos (by simp [Region.wanted, yielded, e24])]
            refine wp_load_mid 23 _ rfl _ 64 e25 _ _ (s1.frb) Try.underlying23 rfl (by rw [zl]; exact Try.size23) ?_
            exact hK _ _ _ rfl ⟨hB, hz, s0, s1, V.step 26 rfl⟩
          · intro L v W2 hd hn ⟨hB, hz, s0, s1, V⟩ K hK
            have e26 := V.at (zdq hd 26 rfl) rfl
            have e24 := V.at (zdq hd 24 rfl) rfl
            rw [if_pos (by simp [Region.wanted, yielded, e24])]
            go_wp2_with (go_at_call 88; refine (HDB.out _).mono ?_; rintro e wy ⟨rfl, hy⟩)
            exact hK _ (.int .i64 (deg B)) _ (by simp only [Act.put, pA, pB, pC, e26, e24]) ⟨hB.trans (hy.mono hB.size), (Nat.le_trans hz hy.size), s0.zw hy, s1.zw hy, V.step 27 rfl⟩
          · intro L v W2 hd hn ⟨hB, hz, s0, s1, V⟩ K hK
            have e24 := V.at (zdq hd 24 rfl) rfl
            rw [if_pos (by simp [Region.wanted, yielded, e24])]
            go_wp2_with fail
            exact hK _ (.pointer (some ⟨w.heap.size + 1, 0, none⟩)) _ (by simp only [Act.put, pA, pB, pC, e24]) ⟨hB, hz, s0, s1, V.step 28 rfl⟩
          · intro L v W2 hd hn ⟨hB, hz, s0, s1, V⟩ K hK
            have e28 := V.at (zdq hd 28 rfl) rfl
            have e24 := V.at (zdq hd 24 rfl) rfl
            rw [if_pos (by simp [Region.wanted, yielded, e24])]
            refine wp_load_mid 23 _ rfl _ 0 e28 _ _ (s1.fra) Try.underlying23 rfl (by rw [zl]; exact Try.size23) ?_
            exact hK _ _ _ rfl ⟨hB, hz, s0, s1, V.step 29 rfl⟩
          · intro L v W2 hd hn ⟨hB, hz, s0, s1, V⟩ K hK
            have e29 := V.at (zdq hd 29 rfl) rfl
            have e24 := V.at (zdq hd 24 rfl) rfl
            rw [if_pos (by simp [Region.wanted, yielded, e24])]
            go_wp2_with (go_at_call 88; refine (HDA.out _).mono ?_; rintro e wy ⟨rfl, hy⟩)
            exact hK _ (.int .i64 (deg A)) _ (by simp only [Act.put, pA, pB, pC, e29, e24]) ⟨hB.trans (hy.mono hB.size), (Nat.le_trans hz hy.size), s0.zw hy, s1.zw hy, V.step 30 rfl⟩
          · intro L v W2 hd hn ⟨hB, hz, s0, s1, V⟩ K hK
            have e27 := V.at (zdq hd 27 rfl) rfl
            have e30 := V.at (zdq hd 30 rfl) rfl
            have e24 := V.at (zdq hd 24 rfl) rfl
            rw [if_pos (by simp [Region.wanted, yielded, e24])]
            go_wp2_with fail
            try rw [show decide (deg A ≤ deg B) = false by simp; omega]
            try rw [show decide (deg B ≥ deg A) = false by simp; omega]
            exact hK _ (.bool false) _ (by simp only [Act.put, pA, pB, pC, e27, e30, e24]) ⟨hB, hz, s0, s1, V.step 31 rfl⟩
          · intro L v W2 hd hn ⟨hB, hz, s0, s1, V⟩ K hK
            have e24 := V.at (zdq hd 24 rfl) rfl
            have e31 := V.at (zdq hd 31 rfl) rfl
            rw [if_pos (by simp [Region.wanted])]
            go_wp2_with fail
            exact hK _ (.bool false) _ (by simp only [Act.put, pA, pB, pC, e24, e31]) ⟨hB, hz, s0, s1, V.step 32 rfl⟩
        · intro L v W2 hL ⟨hB, hz, s0, s1, V⟩
          have e0 := V.at (hL 0 (by decide)) rfl
          have e1 := V.at (hL 1 (by decide)) rfl
          have e2 := V.at (hL 2 (by decide)) rfl
          have e3 := V.at (hL 3 (by decide)) rfl
          have e4 := V.at (hL 4 (by decide)) rfl
          have e5 := V.at (hL 5 (by decide)) rfl
          have e6 := V.at (hL 6 (by decide)) rfl
          have e7 := V.at (hL 7 (by decide)) rfl
          have e8 := V.at (hL 8 (by decide)) rfl
          have e9 := V.at (hL 9 (by decide)) rfl
          have e10 := V.at (hL 10 (by decide)) rfl
          have e11 := V.at (hL 11 (by decide)) rfl
          have e12 := V.at (hL 12 (by decide)) rfl
          have e13 := V.at (hL 13 (by decide)) rfl
          have e14 := V.at (hL 14 (by decide)) rfl
          have e15 := V.at (hL 15 (by decide)) rfl
          have e16 := V.at (hL 16 (by decide)) rfl
          have e17 := V.at (hL 17 (by decide)) rfl
          have e18 := V.at (hL 18 (by decide)) rfl
          have e19 := V.at (hL 19 (by decide)) rfl
          have e20 := V.at (hL 20 (by decide)) rfl
          have e21 := V.at (hL 21 (by decide)) rfl
          have e22 := V.at (hL 22 (by decide)) rfl
          have e23 := V.at (hL 23 (by decide)) rfl
          have e24 := V.at (hL 24 (by decide)) rfl
          have e25 := V.at (hL 25 (by decide)) rfl
          have e26 := V.at (hL 26 (by decide)) rfl
          have e27 := V.at (hL 27 (by decide)) rfl
          have e28 := V.at (hL 28 (by decide)) rfl
          have e29 := V.at (hL 29 (by decide)) rfl
          have e30 := V.at (hL 30 (by decide)) rfl
          have e31 := V.at (hL 31 (by decide)) rfl
          have e32 := V.at (hL 32 (by decide)) rfl
          clear hL V
          simp only [Exit.then, e0, e1, e2, e3, e4, e5, e6, e7, e8, e9, e10, e11, e12, e13, e14, e15, e16, e17, e18, e19, e20, e21, e22, e23, e24, e25, e26, e27, e28, e29, e30, e31, e32]
          clear e0 e1 e2 e3 e4 e5 e6 e7 e8 e9 e10 e11 e12 e13 e14 e15 e16 e17 e18 e19 e20 e21 e22 e23 e24 e25 e26 e27 e28 e29 e30 e31 e32
          replace B0 := s0
          clear s0
          replace B1 := s1
          clear s1
          replace hb := hB
          clear hB
          clear hbase hz lt_B0 lt_B1
          go_upto_region 3 with (fail)
          refine zq Try.mixed (by kernel_rfl) (by kernel_rfl) (fun v => by (simp only [frL, Act.put, pA, pB, pC, Nat.reduceAdd, Nat.zero_add]; exact rfl))
           (fun L v W3 => Below W2.heap.size W2 W3 ∧ VF L v [some (.int .i64 (p : Int)), some (.int .i64 (p : Int)), some (.agg (zb 64 (D))), some (.pointer (some ⟨w.heap.size + 1, 64, none⟩)), some (.agg (zb 64 (B))), some (.agg (zb 64 (addK p (prd p B B) D (-1)))), some (.pointer (some ⟨w.heap.size + 1, 0, none⟩)), some (.agg (zb 64 (A))), some (.agg (zb 64 (resP p (addK p (prd p B B) D (-1)) A))), some (.int .i64 (deg (resP p (addK p (prd p B B) D (-1)) A))), some (.bool (decide (deg (resP p (addK p (prd p B B) D (-1)) A) < 0))), some (.bool (decide (deg (resP p (addK p (prd p B B) D (-1)) A) < 0)))]) ?_ ?_ ?_
          · intro v hv0
            exact ⟨(Below.refl _ W2).drew, VF.start⟩
          · refine (.cons rfl ?_ (.cons rfl ?_ (.cons rfl ?_ (.cons rfl ?_ (.cons rfl ?_ (.cons rfl ?_ (.cons rfl ?_ (.cons rfl ?_ (.cons rfl ?_ (.cons rfl ?_ (.cons rfl ?_ (.cons rfl ?_ (.nil _)))))))))))))
            all_goals intro L v W3 hd hn ⟨hY, V⟩ K hK
            · go_wp2_with fail
              exact hK _ (.int .i64 (p : Int)) _ (by simp only [Act.put, pA, pB, pC ]) ⟨hY, V.step 0 rfl⟩
            · go_wp2_with fail
              exact hK _ (.int .i64 (p : Int)) _ (by simp only [Act.put, pA, pB, pC ]) ⟨hY, V.step 1 rfl⟩
            · refine zlc (B0.zw hY) Try.underlying23 Try.size23 ?_
              exact hK _ _ _ rfl ⟨hY, V.step 2 rfl⟩
            · go_wp2_with fail
              exact hK _ (.pointer (some ⟨w.heap.size + 1, 64, none⟩)) _ (by simp only [Act.put, pA, pB, pC ]) ⟨hY, V.step 3 rfl⟩
            · have e3 := V.at (zdq hd 3 rfl) rfl
              refine wp_load_mid 23 _ rfl _ 64 e3 _ _ ((B1.zw hY).frb) Try.underlying23 rfl (by rw [zl]; exact Try.size23) ?_
              exact hK _ _ _ rfl ⟨hY, V.step 4 rfl⟩
            · have e1 := V.at (zdq hd 1 rfl) rfl
              have e2 := V.at (zdq hd 2 rfl) rfl
              have e4 := V.at (zdq hd 4 rfl) rfl
              go_wp2_with (go_at_call 163; refine (HSQ.out _).mono ?_; rintro e wy ⟨rfl, hy⟩)
              exact hK _ (.agg (zb 64 (addK p (prd p B B) D (-1)))) _ (by simp only [Act.put, pA, pB, pC, e1, e2, e4]) ⟨hY.trans (hy.mono hY.size), V.step 5 rfl⟩
            · go_wp2_with fail
              exact hK _ (.pointer (some ⟨w.heap.size + 1, 0, none⟩)) _ (by simp only [Act.put, pA, pB, pC ]) ⟨hY, V.step 6 rfl⟩
            · have e6 := V.at (zdq hd 6 rfl) rfl
              refine wp_load_mid 23 _ rfl _ 0 e6 _ _ ((B1.zw hY).fra) Try.underlying23 rfl (by rw [zl]; exact Try.size23) ?_
              exact hK _ _ _ rfl ⟨hY, V.step 7 rfl⟩
            · have e0 := V.at (zdq hd 0 rfl) rfl
              have e5 := V.at (zdq hd 5 rfl) rfl
              have e7 := V.at (zdq hd 7 rfl) rfl
              go_wp2_with (go_at_call 146; refine (HMD.out _).mono ?_; rintro e wy ⟨rfl, hy⟩)
              exact hK _ (.agg (zb 64 (resP p (addK p (prd p B B) D (-1)) A))) _ (by simp only [Act.put, pA, pB, pC, e0, e5, e7]) ⟨hY.trans (hy.mono hY.size), V.step 8 rfl⟩
            · have e8 := V.at (zdq hd 8 rfl) rfl
              go_wp2_with (go_at_call 88; refine (HDR.out _).mono ?_; rintro e wy ⟨rfl, hy⟩)
              exact hK _ (.int .i64 (deg (resP p (addK p (prd p B B) D (-1)) A))) _ (by simp only [Act.put, pA, pB, pC, e8]) ⟨hY.trans (hy.mono hY.size), V.step 9 rfl⟩
            · have e9 := V.at (zdq hd 9 rfl) rfl
              go_wp2_with fail
              exact hK _ (.bool (decide (deg (resP p (addK p (prd p B B) D (-1)) A) < 0))) _ (by simp only [Act.put, pA, pB, pC, e9]) ⟨hY, V.step 10 rfl⟩
            · have e10 := V.at (zdq hd 10 rfl) rfl
              go_wp2_with fail
              exact hK _ (.bool (decide (deg (resP p (addK p (prd p B B) D (-1)) A) < 0))) _ (by simp only [Act.put, pA, pB, pC, e10]) ⟨hY, V.step 11 rfl⟩
          · intro L v W3 hL ⟨hY, V⟩
            have e0 := V.at (hL 0 (by decide)) rfl
            have e1 := V.at (hL 1 (by decide)) rfl
            have e2 := V.at (hL 2 (by decide)) rfl
            have e3 := V.at (hL 3 (by decide)) rfl
            have e4 := V.at (hL 4 (by decide)) rfl
            have e5 := V.at (hL 5 (by decide)) rfl
            have e6 := V.at (hL 6 (by decide)) rfl
            have e7 := V.at (hL 7 (by decide)) rfl
            have e8 := V.at (hL 8 (by decide)) rfl
            have e9 := V.at (hL 9 (by decide)) rfl
            have e10 := V.at (hL 10 (by decide)) rfl
            have e11 := V.at (hL 11 (by decide)) rfl
            clear hL V
            replace B0 := B0.zw hY
            replace B1 := B1.zw hY
            replace hb := hb.trans (hY.mono hb.size)
            clear hY
            simp only [Exit.then, e0, e1, e2, e3, e4, e5, e6, e7, e8, e9, e10, e11]
            clear e0 e1 e2 e3 e4 e5 e6 e7 e8 e9 e10 e11
            go_wp2_with fail
            go_ret
            exact ⟨by rw [HV.out, ← HE.out]; rfl, hb⟩
      · skip
        have HV := Lib.hid (fmB_5 (p := (p : Int)) (D := D) hBA)
        have lt_B0 : (w.heap.size) < W1.heap.size := B0.lt
        have lt_B1 : (w.heap.size + 1) < W1.heap.size := B1.lt
        have hbase : w.heap.size ≤ W1.heap.size := hb.size
        refine wp_region_stepsG Try.mixed (by kernel_rfl) (by kernel_rfl) (fun v => by (simp only [frL, Act.put, pA, pB, pC, Nat.reduceAdd, Nat.zero_add]; exact rfl))
         (fun L v W2 => Below w.heap.size w W2 ∧ W1.heap.size ≤ W2.heap.size ∧ Blk W2 (w.heap.size) 64 23 (D) ∧ Row W2 (w.heap.size + 1) 55 (frC A B).toArray ∧ VF L v [some (.int .i64 (p : Int)), some (.pointer (some ⟨w.heap.size + 1, 0, none⟩)), some (.agg (zb 64 (A))), some (.bool true), some (.bool false), some (.bool false), some (.int .i64 (p : Int)), some (.pointer (some ⟨w.heap.size + 1, 64, none⟩)), some (.agg (zb 64 (B))), some (.bool true), some (.bool false), some (.bool false), some (.bool false), some (.pointer (some ⟨w.heap.size + 1, 0, none⟩)), some (.agg (zb 64 (A))), some (.bool true), some (.bool false), some (.bool false), some (.bool false), some (.pointer (some ⟨w.heap.size + 1, 0, none⟩)), some (.agg (zb 64 (A))), some (.int .i64 (deg A)), some (.bool false), some (.bool false), some (.bool false), some (.pointer (some ⟨w.heap.size + 1, 64, none⟩)), some (.agg (zb 64 (B))), some (.int .i64 (deg B)), some (.pointer (some ⟨w.heap.size + 1, 0, none⟩)), some (.agg (zb 64 (A))), some (.int .i64 (deg A)), some (.bool true), some (.bool true)]) ?_ ?_ ?_
        · intro v hv0
          exact ⟨hb.drew, Nat.le_refl _, B0.drew, B1.drew, VF.start⟩
        · refine (.cons ?_ (.cons ?_ (.cons ?_ (.cons ?_ (.cons ?_ (.cons ?_ (.cons ?_ (.cons ?_ (.cons ?_ (.cons ?_ (.cons ?_ (.cons ?_ (.cons ?_ (.cons ?_ (.cons ?_ (.cons ?_ (.cons ?_ (.cons ?_ (.cons ?_ (.cons ?_ (.cons ?_ (.cons ?_ (.cons ?_ (.cons ?_ (.cons ?_ (.cons ?_ (.cons ?_ (.cons ?_ (.cons ?_ (.cons ?_ (.cons ?_ (.cons ?_ (.cons ?_ (.nil _))))))))))))))))))))))))))))))))))
          · intro L v W2 hd hn ⟨hB, hz, s0, s1, V⟩ K hK
            rw [if_pos (by simp [Region.wanted])]
            go_wp2_with fail
            exact hK _ (.int .i64 (p : Int)) _ (by simp only [Act.put, pA, pB, pC ]) ⟨hB, hz, s0, s1, V.step 0 rfl⟩
          · intro L v W2 hd hn ⟨hB, hz, s0, s1, V⟩ K hK
            rw [if_pos (by simp [Region.wanted])]
            go_wp2_with fail
            exact hK _ (.pointer (some ⟨w.heap.size + 1, 0, none⟩)) _ (by simp only [Act.put, pA, pB, pC ]) ⟨hB, hz, s0, s1, V.step 1 rfl⟩
          · intro L v W2 hd hn ⟨hB, hz, s0, s1, V⟩ K hK
            have e1 := V.at (zdq hd 1 rfl) rfl
            rw [if_pos (by simp [Region.wanted])]
            refine wp_load_mid 23 _ rfl _ 0 e1 _ _ (s1.fra) Try.underlying23 rfl (by rw [zl]; exact Try.size23) ?_
            exact hK _ _ _ rfl ⟨hB, hz, s0, s1, V.step 2 rfl⟩
          · intro L v W2 hd hn ⟨hB, hz, s0, s1, V⟩ K hK
            have e0 := V.at (zdq hd 0 rfl) rfl
            have e2 := V.at (zdq hd 2 rfl) rfl
            rw [if_pos (by simp [Region.wanted])]
            go_wp2_with (go_at_call 144; refine (HO1.out _).mono ?_; rintro e wy ⟨rfl, hy⟩)
            exact hK _ (.bool true) _ (by simp only [Act.put, pA, pB, pC, e0, e2]) ⟨hB.trans (hy.mono hB.size), (Nat.le_trans hz hy.size), s0.zw hy, s1.zw hy, V.step 3 rfl⟩
          · intro L v W2 hd hn ⟨hB, hz, s0, s1, V⟩ K hK
            have e3 := V.at (zdq hd 3 rfl) rfl
            rw [if_pos (by simp [Region.wanted])]
            go_wp2_with fail
            exact hK _ (.bool false) _ (by simp only [Act.put, pA, pB, pC, e3]) ⟨hB, hz, s0, s1, V.step 4 rfl⟩
          · intro L v W2 hd hn ⟨hB, hz, s0, s1, V⟩ K hK
            have e4 := V.at (zdq hd 4 rfl) rfl
            rw [if_pos (by simp [Region.wanted])]
            go_wp2_with fail
            exact hK _ (.bool false) _ (by simp only [Act.put, pA, pB, pC, e4]) ⟨hB, hz, s0, s1, V.step 5 rfl⟩
          · intro L v W2 hd hn ⟨hB, hz, s0, s1, V⟩ K hK
            have e5 := V.at (zdq hd 5 rfl) rfl
            rw [if_pos (by simp [Region.wanted, yielded, e5])]
            go_wp2_with fail
            exact hK _ (.int .i64 (p : Int)) _ (by simp only [Act.put, pA, pB, pC, e5]) ⟨hB, hz, s0, s1, V.step 6 rfl⟩
          · intro L v W2 hd hn ⟨hB, hz, s0, s1, V⟩ K hK
            have e5 := V.at (zdq hd 5 rfl) rfl
            rw [if_pos (by simp [Region.wanted, yielded, e5])]
            go_wp2_with fail
            exact hK _ (.pointer (some ⟨w.heap.size + 1, 64, none⟩)) _ (by simp only [Act.put, pA, pB, pC, e5]) ⟨hB, hz, s0, s1, V.step 7 rfl⟩
          · intro L v W2 hd hn ⟨hB, hz, s0, s1, V⟩ K hK
            have e7 := V.at (zdq hd 7 rfl) rfl
            have e5 := V.at (zdq hd 5 rfl) rfl
            rw [if_pos (by simp [Region.wanted, yielded, e5])]
            refine wp_load_mid 23 _ rfl _ 64 e7 _ _ (s1.frb) Try.underlying23 rfl (by rw [zl]; exact Try.size23) ?_
            exact hK _ _ _ rfl ⟨hB, hz, s0, s1, V.step 8 rfl⟩
          · intro L v W2 hd hn ⟨hB, hz, s0, s1, V⟩ K hK
            have e6 := V.at (zdq hd 6 rfl) rfl
            have e8 := V.at (zdq hd 8 rfl) rfl
            have e5 := V.at (zdq hd 5 rfl) rfl
            rw [if_pos (by simp [Region.wanted, yielded, e5])]
            go_wp2_with (go_at_call 144; refine (HO2.out _).mono ?_; rintro e wy ⟨rfl, hy⟩)
            exact hK _ (.bool true) _ (by simp only [Act.put, pA, pB, pC, e6, e8, e5]) ⟨hB.trans (hy.mono hB.size), (Nat.le_trans hz hy.size), s0.zw hy, s1.zw hy, V.step 9 rfl⟩
          · intro L v W2 hd hn ⟨hB, hz, s0, s1, V⟩ K hK
            have e9 := V.at (zdq hd 9 rfl) rfl
            have e5 := V.at (zdq hd 5 rfl) rfl
            rw [if_pos (by simp [Region.wanted, yielded, e5])]
            go_wp2_with fail
            exact hK _ (.bool false) _ (by simp only [Act.put, pA, pB, pC, e9, e5]) ⟨hB, hz, s0, s1, V.step 10 rfl⟩
          · intro L v W2 hd hn ⟨hB, hz, s0, s1, V⟩ K hK
            have e5 := V.at (zdq hd 5 rfl) rfl
            have e10 := V.at (zdq hd 10 rfl) rfl
            rw [if_pos (by simp [Region.wanted])]
            go_wp2_with fail
            exact hK _ (.bool false) _ (by simp only [Act.put, pA, pB, pC, e5, e10]) ⟨hB, hz, s0, s1, V.step 11 rfl⟩
          · intro L v W2 hd hn ⟨hB, hz, s0, s1, V⟩ K hK
            have e11 := V.at (zdq hd 11 rfl) rfl
            rw [if_pos (by simp [Region.wanted])]
            go_wp2_with fail
            exact hK _ (.bool false) _ (by simp only [Act.put, pA, pB, pC, e11]) ⟨hB, hz, s0, s1, V.step 12 rfl⟩
          · intro L v W2 hd hn ⟨hB, hz, s0, s1, V⟩ K hK
            have e12 := V.at (zdq hd 12 rfl) rfl
            rw [if_pos (by simp [Region.wanted, yielded, e12])]
            go_wp2_with fail
            exact hK _ (.pointer (some ⟨w.heap.size + 1, 0, none⟩)) _ (by simp only [Act.put, pA, pB, pC, e12]) ⟨hB, hz, s0, s1, V.step 13 rfl⟩
          · intro L v W2 hd hn ⟨hB, hz, s0, s1, V⟩ K hK
            have e13 := V.at (zdq hd 13 rfl) rfl
            have e12 := V.at (zdq hd 12 rfl) rfl
            rw [if_pos (by simp [Region.wanted, yielded, e12])]
            refine wp_load_mid 23 _ rfl _ 0 e13 _ _ (s1.fra) Try.underlying23 rfl (by rw [zl]; exact Try.size23) ?_
            exact hK _ _ _ rfl ⟨hB, hz, s0, s1, V.step 14 rfl⟩
          · intro L v W2 hd hn ⟨hB, hz, s0, s1, V⟩ K hK
            have e14 := V.at (zdq hd 14 rfl) rfl
            have e12 := V.at (zdq hd 12 rfl) rfl
            rw [if_pos (by simp [Region.wanted, yielded, e12])]
            go_wp2_with (go_at_call 104; refine (HMO.out _).mono ?_; rintro e wy ⟨rfl, hy⟩)
            exact hK _ (.bool true) _ (by simp only [Act.put, pA, pB, pC, e14, e12]) ⟨hB.trans (hy.mono hB.size), (Nat.le_trans hz hy.size), s0.zw hy, s1.zw hy, V.step 15 rfl⟩
          · intro L v W2 hd hn ⟨hB, hz, s0, s1, V⟩ K hK
            have e15 := V.at (zdq hd 15 rfl) rfl
            have e12 := V.at (zdq hd 12 rfl) rfl
            rw [if_pos (by simp [Region.wanted, yielded, e12])]
            go_wp2_with fail
            exact hK _ (.bool false) _ (by simp only [Act.put, pA, pB, pC, e15, e12]) ⟨hB, hz, s0, s1, V.step 16 rfl⟩
          · intro L v W2 hd hn ⟨hB, hz, s0, s1, V⟩ K hK
            have e12 := V.at (zdq hd 12 rfl) rfl
            have e16 := V.at (zdq hd 16 rfl) rfl
            rw [if_pos (by simp [Region.wanted])]
            go_wp2_with fail
            exact hK _ (.bool false) _ (by simp only [Act.put, pA, pB, pC, e12, e16]) ⟨hB, hz, s0, s1, V.step 17 rfl⟩
          · intro L v W2 hd hn ⟨hB, hz, s0, s1, V⟩ K hK
            have e17 := V.at (zdq hd 17 rfl) rfl
            rw [if_pos (by simp [Region.wanted])]
            go_wp2_with fail
            exact hK _ (.bool false) _ (by simp only [Act.put, pA, pB, pC, e17]) ⟨hB, hz, s0, s1, V.step 18 rfl⟩
          · intro L v W2 hd hn ⟨hB, hz, s0, s1, V⟩ K hK
            have e18 := V.at (zdq hd 18 rfl) rfl
            rw [if_pos (by simp [Region.wanted, yielded, e18])]
            go_wp2_with fail
            exact hK _ (.pointer (some ⟨w.heap.size + 1, 0, none⟩)) _ (by simp only [Act.put, pA, pB, pC, e18]) ⟨hB, hz, s0, s1, V.step 19 rfl⟩
          · intro L v W2 hd hn ⟨hB, hz, s0, s1, V⟩ K hK
            have e19 := V.at (zdq hd 19 rfl) rfl
            have e18 := V.at (zdq hd 18 rfl) rfl
            rw [if_pos (by simp [Region.wanted, yielded, e18])]
            refine wp_load_mid 23 _ rfl _ 0 e19 _ _ (s1.fra) Try.underlying23 rfl (by rw [zl]; exact Try.size23) ?_
            exact hK _ _ _ rfl ⟨hB, hz, s0, s1, V.step 20 rfl⟩
          · intro L v W2 hd hn ⟨hB, hz, s0, s1, V⟩ K hK
            have e20 := V.at (zdq hd 20 rfl) rfl
            have e18 := V.at (zdq hd 18 rfl) rfl
            rw [if_pos (by simp [Region.wanted, yielded, e18])]
            go_wp2_with (go_at_call 88; refine (HDA.out _).mono ?_; rintro e wy ⟨rfl, hy⟩)
            exact hK _ (.int .i64 (deg A)) _ (by simp only [Act.put, pA, pB, pC, e20, e18]) ⟨hB.trans (hy.mono hB.size), (Nat.le_trans hz hy.size), s0.zw hy, s1.zw hy, V.step 21 rfl⟩
          · intro L v W2 hd hn ⟨hB, hz, s0, s1, V⟩ K hK
            have e21 := V.at (zdq hd 21 rfl) rfl
            have e18 := V.at (zdq hd 18 rfl) rfl
            rw [if_pos (by simp [Region.wanted, yielded, e18])]
            go_wp2_with fail
            try rw [show decide ((12 : Int) < deg A) = false by simp; omega]
            try rw [show decide (deg A > (12 : Int)) = false by simp; omega]
            exact hK _ (.bool false) _ (by simp only [Act.put, pA, pB, pC, e21, e18]) ⟨hB, hz, s0, s1, V.step 22 rfl⟩
          · intro L v W2 hd hn ⟨hB, hz, s0, s1, V⟩ K hK
            have e18 := V.at (zdq hd 18 rfl) rfl
            have e22 := V.at (zdq hd 22 rfl) rfl
            rw [if_pos (by simp [Region.wanted])]
            go_wp2_with fail
            exact hK _ (.bool false) _ (by simp only [Act.put, pA, pB, pC, e18, e22]) ⟨hB, hz, s0, s1, V.step 23 rfl⟩
          · intro L v W2 hd hn ⟨hB, hz, s0, s1, V⟩ K hK
            have e23 := V.at (zdq hd 23 rfl) rfl
            rw [if_pos (by simp [Region.wanted])]
            go_wp2_with fail
            exact hK _ (.bool false) _ (by simp only [Act.put, pA, pB, pC, e23]) ⟨hB, hz, s0, s1, V.step 24 rfl⟩
          · intro L v W2 hd hn ⟨hB, hz, s0, s1, V⟩ K hK
            have e24 := V.at (zdq hd 24 rfl) rfl
            rw [if_pos (by simp [Region.wanted, yielded, e24])]
            go_wp2_with fail
            exact hK _ (.pointer (some ⟨w.heap.size + 1, 64, none⟩)) _ (by simp only [Act.put, pA, pB, pC, e24]) ⟨hB, hz, s0, s1, V.step 25 rfl⟩
          · intro L v W2 hd hn ⟨hB, hz, s0, s1, V⟩ K hK
            have e25 := V.at (zdq hd 25 rfl) rfl
            have e24 := V.at (zdq hd 24 rfl) rfl
            rw [if_pos (by simp [Region.wanted, yielded, e24])]
            refine wp_load_mid 23 _ rfl _ 64 e25 _ _ (s1.frb) Try.underlying23 rfl (by rw [zl]; exact Try.size23) ?_
            exact hK _ _ _ rfl ⟨hB, hz, s0, s1, V.step 26 rfl⟩
          · intro L v W2 hd hn ⟨hB, hz, s0, s1, V⟩ K hK
            have e26 := V.at (zdq hd 26 rfl) rfl
            have e24 := V.at (zdq hd 24 rfl) rfl
            rw [if_pos (by simp [Region.wanted, yielded, e24])]
            go_wp2_with (go_at_call 88; refine (HDB.out _).mono ?_; rintro e wy ⟨rfl, hy⟩)
            exact hK _ (.int .i64 (deg B)) _ (by simp only [Act.put, pA, pB, pC, e26, e24]) ⟨hB.trans (hy.mono hB.size), (Nat.le_trans hz hy.size), s0.zw hy, s1.zw hy, V.step 27 rfl⟩
          · intro L v W2 hd hn ⟨hB, hz, s0, s1, V⟩ K hK
            have e24 := V.at (zdq hd 24 rfl) rfl
            rw [if_pos (by simp [Region.wanted, yielded, e24])]
            go_wp2_with fail
            exact hK _ (.pointer (some ⟨w.heap.size + 1, 0, none⟩)) _ (by simp only [Act.put, pA, pB, pC, e24]) ⟨hB, hz, s0, s1, V.step 28 rfl⟩
          · intro L v W2 hd hn ⟨hB, hz, s0, s1, V⟩ K hK
            have e28 := V.at (zdq hd 28 rfl) rfl
            have e24 := V.at (zdq hd 24 rfl) rfl
            rw [if_pos (by simp [Region.wanted, yielded, e24])]
            refine wp_load_mid 23 _ rfl _ 0 e28 _ _ (s1.fra) Try.underlying23 rfl (by rw [zl]; exact Try.size23) ?_
            exact hK _ _ _ rfl ⟨hB, hz, s0, s1, V.step 29 rfl⟩
          · intro L v W2 hd hn ⟨hB, hz, s0, s1, V⟩ K hK
            have e29 := V.at (zdq hd 29 rfl) rfl
            have e24 := V.at (zdq hd 24 rfl) rfl
            rw [if_pos (by simp [Region.wanted, yielded, e24])]
            go_wp2_with (go_at_call 88; refine (HDA.out _).mono ?_; rintro e wy ⟨rfl, hy⟩)
            exact hK _ (.int .i64 (deg A)) _ (by simp only [Act.put, pA, pB, pC, e29, e24]) ⟨hB.trans (hy.mono hB.size), (Nat.le_trans hz hy.size), s0.zw hy, s1.zw hy, V.step 30 rfl⟩
          · intro L v W2 hd hn ⟨hB, hz, s0, s1, V⟩ K hK
            have e27 := V.at (zdq hd 27 rfl) rfl
            have e30 := V.at (zdq hd 30 rfl) rfl
            have e24 := V.at (zdq hd 24 rfl) rfl
            rw [if_pos (by simp [Region.wanted, yielded, e24])]
            go_wp2_with fail
            try rw [show decide (deg A ≤ deg B) = true by simp; omega]
            try rw [show decide (deg B ≥ deg A) = true by simp; omega]
            exact hK _ (.bool true) _ (by simp only [Act.put, pA, pB, pC, e27, e30, e24]) ⟨hB, hz, s0, s1, V.step 31 rfl⟩
          · intro L v W2 hd hn ⟨hB, hz, s0, s1, V⟩ K hK
            have e24 := V.at (zdq hd 24 rfl) rfl
            have e31 := V.at (zdq hd 31 rfl) rfl
            rw [if_pos (by simp [Region.wanted])]
            go_wp2_with fail
            exact hK _ (.bool true) _ (by simp only [Act.put, pA, pB, pC, e24, e31]) ⟨hB, hz, s0, s1, V.step 32 rfl⟩
        · intro L v W2 hL ⟨hB, hz, s0, s1, V⟩
          have e0 := V.at (hL 0 (by decide)) rfl
          have e1 := V.at (hL 1 (by decide)) rfl
          have e2 := V.at (hL 2 (by decide)) rfl
          have e3 := V.at (hL 3 (by decide)) rfl
          have e4 := V.at (hL 4 (by decide)) rfl
          have e5 := V.at (hL 5 (by decide)) rfl
          have e6 := V.at (hL 6 (by decide)) rfl
          have e7 := V.at (hL 7 (by decide)) rfl
          have e8 := V.at (hL 8 (by decide)) rfl
          have e9 := V.at (hL 9 (by decide)) rfl
          have e10 := V.at (hL 10 (by decide)) rfl
          have e11 := V.at (hL 11 (by decide)) rfl
          have e12 := V.at (hL 12 (by decide)) rfl
          have e13 := V.at (hL 13 (by decide)) rfl
          have e14 := V.at (hL 14 (by decide)) rfl
          have e15 := V.at (hL 15 (by decide)) rfl
          have e16 := V.at (hL 16 (by decide)) rfl
          have e17 := V.at (hL 17 (by decide)) rfl
          have e18 := V.at (hL 18 (by decide)) rfl
          have e19 := V.at (hL 19 (by decide)) rfl
          have e20 := V.at (hL 20 (by decide)) rfl
          have e21 := V.at (hL 21 (by decide)) rfl
          have e22 := V.at (hL 22 (by decide)) rfl
          have e23 := V.at (hL 23 (by decide)) rfl
          have e24 := V.at (hL 24 (by decide)) rfl
          have e25 := V.at (hL 25 (by decide)) rfl
          have e26 := V.at (hL 26 (by decide)) rfl
          have e27 := V.at (hL 27 (by decide)) rfl
          have e28 := V.at (hL 28 (by decide)) rfl
          have e29 := V.at (hL 29 (by decide)) rfl
          have e30 := V.at (hL 30 (by decide)) rfl
          have e31 := V.at (hL 31 (by decide)) rfl
          have e32 := V.at (hL 32 (by decide)) rfl
          clear hL V
          simp only [Exit.then, e0, e1, e2, e3, e4, e5, e6, e7, e8, e9, e10, e11, e12, e13, e14, e15, e16, e17, e18, e19, e20, e21, e22, e23, e24, e25, e26, e27, e28, e29, e30, e31, e32]
          clear e0 e1 e2 e3 e4 e5 e6 e7 e8 e9 e10 e11 e12 e13 e14 e15 e16 e17 e18 e19 e20 e21 e22 e23 e24 e25 e26 e27 e28 e29 e30 e31 e32
          replace B0 := s0
          clear s0
          replace B1 := s1
          clear s1
          replace hb := hB
          clear hB
          clear hbase hz lt_B0 lt_B1
          go_wp2_with fail
          go_ret
          exact ⟨by rw [HV.out]; rfl, hb⟩
    · skip
      have HV := Lib.hid (fmB_4 (p := (p : Int)) (D := D) (B := B) h12)
      have lt_B0 : (w.heap.size) < W1.heap.size := B0.lt
      have lt_B1 : (w.heap.size + 1) < W1.heap.size := B1.lt
      have hbase : w.heap.size ≤ W1.heap.size := hb.size
      refine wp_region_stepsG Try.mixed (by kernel_rfl) (by kernel_rfl) (fun v => by (simp only [frL, Act.put, pA, pB, pC, Nat.reduceAdd, Nat.zero_add]; exact rfl))
       (fun L v W2 => Below w.heap.size w W2 ∧ W1.heap.size ≤ W2.heap.size ∧ Blk W2 (w.heap.size) 64 23 (D) ∧ Row W2 (w.heap.size + 1) 55 (frC A B).toArray ∧ VF L v [some (.int .i64 (p : Int)), some (.pointer (some ⟨w.heap.size + 1, 0, none⟩)), some (.agg (zb 64 (A))), some (.bool true), some (.bool false), some (.bool false), some (.int .i64 (p : Int)), some (.pointer (some ⟨w.heap.size + 1, 64, none⟩)), some (.agg (zb 64 (B))), some (.bool true), some (.bool false), some (.bool false), some (.bool false), some (.pointer (some ⟨w.heap.size + 1, 0, none⟩)), some (.agg (zb 64 (A))), some (.bool true), some (.bool false), some (.bool false), some (.bool false), some (.pointer (some ⟨w.heap.size + 1, 0, none⟩)), some (.agg (zb 64 (A))), some (.int .i64 (deg A)), some (.bool true), some (.bool true), some (.bool true), some undef, some undef, some undef, some undef, some undef, some undef, some undef, some (.bool true)]) ?_ ?_ ?_
      · intro v hv0
        exact ⟨hb.drew, Nat.le_refl _, B0.drew, B1.drew, VF.start⟩
      · refine (.cons ?_ (.cons ?_ (.cons ?_ (.cons ?_ (.cons ?_ (.cons ?_ (.cons ?_ (.cons ?_ (.cons ?_ (.cons ?_ (.cons ?_ (.cons ?_ (.cons ?_ (.cons ?_ (.cons ?_ (.cons ?_ (.cons ?_ (.cons ?_ (.cons ?_ (.cons ?_ (.cons ?_ (.cons ?_ (.cons ?_ (.cons ?_ (.cons ?_ (.cons ?_ (.cons ?_ (.cons ?_ (.cons ?_ (.cons ?_ (.cons ?_ (.cons ?_ (.cons ?_ (.nil _))))))))))))))))))))))))))))))))))
        · intro L v W2 hd hn ⟨hB, hz, s0, s1, V⟩ K hK
          rw [if_pos (by simp [Region.wanted])]
          go_wp2_with fail
          exact hK _ (.int .i64 (p : Int)) _ (by simp only [Act.put, pA, pB, pC ]) ⟨hB, hz, s0, s1, V.step 0 rfl⟩
        · intro L v W2 hd hn ⟨hB, hz, s0, s1, V⟩ K hK
          rw [if_pos (by simp [Region.wanted])]
          go_wp2_with fail
          exact hK _ (.pointer (some ⟨w.heap.size + 1, 0, none⟩)) _ (by simp only [Act.put, pA, pB, pC ]) ⟨hB, hz, s0, s1, V.step 1 rfl⟩
        · intro L v W2 hd hn ⟨hB, hz, s0, s1, V⟩ K hK
          have e1 := V.at (zdq hd 1 rfl) rfl
          rw [if_pos (by simp [Region.wanted])]
          refine wp_load_mid 23 _ rfl _ 0 e1 _ _ (s1.fra) Try.underlying23 rfl (by rw [zl]; exact Try.size23) ?_
          exact hK _ _ _ rfl ⟨hB, hz, s0, s1, V.step 2 rfl⟩
        · intro L v W2 hd hn ⟨hB, hz, s0, s1, V⟩ K hK
          have e0 := V.at (zdq hd 0 rfl) rfl
          have e2 := V.at (zdq hd 2 rfl) rfl
          rw [if_pos (by simp [Region.wanted])]
          go_wp2_with (go_at_call 144; refine (HO1.out _).mono ?_; rintro e wy ⟨rfl, hy⟩)
          exact hK _ (.bool true) _ (by simp only [Act.put, pA, pB, pC, e0, e2]) ⟨hB.trans (hy.mono hB.size), (Nat.le_trans hz hy.size), s0.zw hy, s1.zw hy, V.step 3 rfl⟩
        · intro L v W2 hd hn ⟨hB, hz, s0, s1, V⟩ K hK
          have e3 := V.at (zdq hd 3 rfl) rfl
          rw [if_pos (by simp [Region.wanted])]
          go_wp2_with fail
          exact hK _ (.bool false) _ (by simp only [Act.put, pA, pB, pC, e3]) ⟨hB, hz, s0, s1, V.step 4 rfl⟩
        · intro L v W2 hd hn ⟨hB, hz, s0, s1, V⟩ K hK
          have e4 := V.at (zdq hd 4 rfl) rfl
          rw [if_pos (by simp [Region.wanted])]
          go_wp2_with fail
          exact hK _ (.bool false) _ (by simp only [Act.put, pA, pB, pC, e4]) ⟨hB, hz, s0, s1, V.step 5 rfl⟩
        · intro L v W2 hd hn ⟨hB, hz, s0, s1, V⟩ K hK
          have e5 := V.at (zdq hd 5 rfl) rfl
          rw [if_pos (by simp [Region.wanted, yielded, e5])]
          go_wp2_with fail
          exact hK _ (.int .i64 (p : Int)) _ (by simp only [Act.put, pA, pB, pC, e5]) ⟨hB, hz, s0, s1, V.step 6 rfl⟩
        · intro L v W2 hd hn ⟨hB, hz, s0, s1, V⟩ K hK
          have e5 := V.at (zdq hd 5 rfl) rfl
          rw [if_pos (by simp [Region.wanted, yielded, e5])]
          go_wp2_with fail
          exact hK _ (.pointer (some ⟨w.heap.size + 1, 64, none⟩)) _ (by simp only [Act.put, pA, pB, pC, e5]) ⟨hB, hz, s0, s1, V.step 7 rfl⟩
        · intro L v W2 hd hn ⟨hB, hz, s0, s1, V⟩ K hK
          have e7 := V.at (zdq hd 7 rfl) rfl
          have e5 := V.at (zdq hd 5 rfl) rfl
          rw [if_pos (by simp [Region.wanted, yielded, e5])]
          refine wp_load_mid 23 _ rfl _ 64 e7 _ _ (s1.frb) Try.underlying23 rfl (by rw [zl]; exact Try.size23) ?_
          exact hK _ _ _ rfl ⟨hB, hz, s0, s1, V.step 8 rfl⟩
        · intro L v W2 hd hn ⟨hB, hz, s0, s1, V⟩ K hK
          have e6 := V.at (zdq hd 6 rfl) rfl
          have e8 := V.at (zdq hd 8 rfl) rfl
          have e5 := V.at (zdq hd 5 rfl) rfl
          rw [if_pos (by simp [Region.wanted, yielded, e5])]
          go_wp2_with (go_at_call 144; refine (HO2.out _).mono ?_; rintro e wy ⟨rfl, hy⟩)
          exact hK _ (.bool true) _ (by simp only [Act.put, pA, pB, pC, e6, e8, e5]) ⟨hB.trans (hy.mono hB.size), (Nat.le_trans hz hy.size), s0.zw hy, s1.zw hy, V.step 9 rfl⟩
        · intro L v W2 hd hn ⟨hB, hz, s0, s1, V⟩ K hK
          have e9 := V.at (zdq hd 9 rfl) rfl
          have e5 := V.at (zdq hd 5 rfl) rfl
          rw [if_pos (by simp [Region.wanted, yielded, e5])]
          go_wp2_with fail
          exact hK _ (.bool false) _ (by simp only [Act.put, pA, pB, pC, e9, e5]) ⟨hB, hz, s0, s1, V.step 10 rfl⟩
        · intro L v W2 hd hn ⟨hB, hz, s0, s1, V⟩ K hK
          have e5 := V.at (zdq hd 5 rfl) rfl
          have e10 := V.at (zdq hd 10 rfl) rfl
          rw [if_pos (by simp [Region.wanted])]
          go_wp2_with fail
          exact hK _ (.bool false) _ (by simp only [Act.put, pA, pB, pC, e5, e10]) ⟨hB, hz, s0, s1, V.step 11 rfl⟩
        · intro L v W2 hd hn ⟨hB, hz, s0, s1, V⟩ K hK
          have e11 := V.at (zdq hd 11 rfl) rfl
          rw [if_pos (by simp [Region.wanted])]
          go_wp2_with fail
          exact hK _ (.bool false) _ (by simp only [Act.put, pA, pB, pC, e11]) ⟨hB, hz, s0, s1, V.step 12 rfl⟩
        · intro L v W2 hd hn ⟨hB, hz, s0, s1, V⟩ K hK
          have e12 := V.at (zdq hd 12 rfl) rfl
          rw [if_pos (by simp [Region.wanted, yielded, e12])]
          go_wp2_with fail
          exact hK _ (.pointer (some ⟨w.heap.size + 1, 0, none⟩)) _ (by simp only [Act.put, pA, pB, pC, e12]) ⟨hB, hz, s0, s1, V.step 13 rfl⟩
        · intro L v W2 hd hn ⟨hB, hz, s0, s1, V⟩ K hK
          have e13 := V.at (zdq hd 13 rfl) rfl
          have e12 := V.at (zdq hd 12 rfl) rfl
          rw [if_pos (by simp [Region.wanted, yielded, e12])]
          refine wp_load_mid 23 _ rfl _ 0 e13 _ _ (s1.fra) Try.underlying23 rfl (by rw [zl]; exact Try.size23) ?_
          exact hK _ _ _ rfl ⟨hB, hz, s0, s1, V.step 14 rfl⟩
        · intro L v W2 hd hn ⟨hB, hz, s0, s1, V⟩ K hK
          have e14 := V.at (zdq hd 14 rfl) rfl
          have e12 := V.at (zdq hd 12 rfl) rfl
          rw [if_pos (by simp [Region.wanted, yielded, e12])]
          go_wp2_with (go_at_call 104; refine (HMO.out _).mono ?_; rintro e wy ⟨rfl, hy⟩)
          exact hK _ (.bool true) _ (by simp only [Act.put, pA, pB, pC, e14, e12]) ⟨hB.trans (hy.mono hB.size), (Nat.le_trans hz hy.size), s0.zw hy, s1.zw hy, V.step 15 rfl⟩
        · intro L v W2 hd hn ⟨hB, hz, s0, s1, V⟩ K hK
          have e15 := V.at (zdq hd 15 rfl) rfl
          have e12 := V.at (zdq hd 12 rfl) rfl
          rw [if_pos (by simp [Region.wanted, yielded, e12])]
          go_wp2_with fail
          exact hK _ (.bool false) _ (by simp only [Act.put, pA, pB, pC, e15, e12]) ⟨hB, hz, s0, s1, V.step 16 rfl⟩
        · intro L v W2 hd hn ⟨hB, hz, s0, s1, V⟩ K hK
          have e12 := V.at (zdq hd 12 rfl) rfl
          have e16 := V.at (zdq hd 16 rfl) rfl
          rw [if_pos (by simp [Region.wanted])]
          go_wp2_with fail
          exact hK _ (.bool false) _ (by simp only [Act.put, pA, pB, pC, e12, e16]) ⟨hB, hz, s0, s1, V.step 17 rfl⟩
        · intro L v W2 hd hn ⟨hB, hz, s0, s1, V⟩ K hK
          have e17 := V.at (zdq hd 17 rfl) rfl
          rw [if_pos (by simp [Region.wanted])]
          go_wp2_with fail
          exact hK _ (.bool false) _ (by simp only [Act.put, pA, pB, pC, e17]) ⟨hB, hz, s0, s1, V.step 18 rfl⟩
        · intro L v W2 hd hn ⟨hB, hz, s0, s1, V⟩ K hK
          have e18 := V.at (zdq hd 18 rfl) rfl
          rw [if_pos (by simp [Region.wanted, yielded, e18])]
          go_wp2_with fail
          exact hK _ (.pointer (some ⟨w.heap.size + 1, 0, none⟩)) _ (by simp only [Act.put, pA, pB, pC, e18]) ⟨hB, hz, s0, s1, V.step 19 rfl⟩
        · intro L v W2 hd hn ⟨hB, hz, s0, s1, V⟩ K hK
          have e19 := V.at (zdq hd 19 rfl) rfl
          have e18 := V.at (zdq hd 18 rfl) rfl
          rw [if_pos (by simp [Region.wanted, yielded, e18])]
          refine wp_load_mid 23 _ rfl _ 0 e19 _ _ (s1.fra) Try.underlying23 rfl (by rw [zl]; exact Try.size23) ?_
          exact hK _ _ _ rfl ⟨hB, hz, s0, s1, V.step 20 rfl⟩
        · intro L v W2 hd hn ⟨hB, hz, s0, s1, V⟩ K hK
          have e20 := V.at (zdq hd 20 rfl) rfl
          have e18 := V.at (zdq hd 18 rfl) rfl
          rw [if_pos (by simp [Region.wanted, yielded, e18])]
          go_wp2_with (go_at_call 88; refine (HDA.out _).mono ?_; rintro e wy ⟨rfl, hy⟩)
          exact hK _ (.int .i64 (deg A)) _ (by simp only [Act.put, pA, pB, pC, e20, e18]) ⟨hB.trans (hy.mono hB.size), (Nat.le_trans hz hy.size), s0.zw hy, s1.zw hy, V.step 21 rfl⟩
        · intro L v W2 hd hn ⟨hB, hz, s0, s1, V⟩ K hK
          have e21 := V.at (zdq hd 21 rfl) rfl
          have e18 := V.at (zdq hd 18 rfl) rfl
          rw [if_pos (by simp [Region.wanted, yielded, e18])]
          go_wp2_with fail
          try rw [show decide ((12 : Int) < deg A) = true by simp; omega]
          try rw [show decide (deg A > (12 : Int)) = true by simp; omega]
          exact hK _ (.bool true) _ (by simp only [Act.put, pA, pB, pC, e21, e18]) ⟨hB, hz, s0, s1, V.step 22 rfl⟩
        · intro L v W2 hd hn ⟨hB, hz, s0, s1, V⟩ K hK
          have e18 := V.at (zdq hd 18 rfl) rfl
          have e22 := V.at (zdq hd 22 rfl) rfl
          rw [if_pos (by simp [Region.wanted])]
          go_wp2_with fail
          exact hK _ (.bool true) _ (by simp only [Act.put, pA, pB, pC, e18, e22]) ⟨hB, hz, s0, s1, V.step 23 rfl⟩
        · intro L v W2 hd hn ⟨hB, hz, s0, s1, V⟩ K hK
          have e23 := V.at (zdq hd 23 rfl) rfl
          rw [if_pos (by simp [Region.wanted])]
          go_wp2_with fail
          exact hK _ (.bool true) _ (by simp only [Act.put, pA, pB, pC, e23]) ⟨hB, hz, s0, s1, V.step 24 rfl⟩
        · intro L v W2 hd hn ⟨hB, hz, s0, s1, V⟩ K hK
          have e24 := V.at (zdq hd 24 rfl) rfl
          rw [if_neg (by simp [Region.wanted, yielded, e24])]
          exact hK _ undef _ rfl ⟨hB, hz, s0, s1, V.step 25 rfl⟩
        · intro L v W2 hd hn ⟨hB, hz, s0, s1, V⟩ K hK
          have e25 := V.at (zdq hd 25 rfl) rfl
          have e24 := V.at (zdq hd 24 rfl) rfl
          rw [if_neg (by simp [Region.wanted, yielded, e24])]
          exact hK _ undef _ rfl ⟨hB, hz, s0, s1, V.step 26 rfl⟩
        · intro L v W2 hd hn ⟨hB, hz, s0, s1, V⟩ K hK
          have e26 := V.at (zdq hd 26 rfl) rfl
          have e24 := V.at (zdq hd 24 rfl) rfl
          rw [if_neg (by simp [Region.wanted, yielded, e24])]
          exact hK _ undef _ rfl ⟨hB, hz, s0, s1, V.step 27 rfl⟩
        · intro L v W2 hd hn ⟨hB, hz, s0, s1, V⟩ K hK
          have e24 := V.at (zdq hd 24 rfl) rfl
          rw [if_neg (by simp [Region.wanted, yielded, e24])]
          exact hK _ undef _ rfl ⟨hB, hz, s0, s1, V.step 28 rfl⟩
        · intro L v W2 hd hn ⟨hB, hz, s0, s1, V⟩ K hK
          have e28 := V.at (zdq hd 28 rfl) rfl
          have e24 := V.at (zdq hd 24 rfl) rfl
          rw [if_neg (by simp [Region.wanted, yielded, e24])]
          exact hK _ undef _ rfl ⟨hB, hz, s0, s1, V.step 29 rfl⟩
        · intro L v W2 hd hn ⟨hB, hz, s0, s1, V⟩ K hK
          have e29 := V.at (zdq hd 29 rfl) rfl
          have e24 := V.at (zdq hd 24 rfl) rfl
          rw [if_neg (by simp [Region.wanted, yielded, e24])]
          exact hK _ undef _ rfl ⟨hB, hz, s0, s1, V.step 30 rfl⟩
        · intro L v W2 hd hn ⟨hB, hz, s0, s1, V⟩ K hK
          have e27 := V.at (zdq hd 27 rfl) rfl
          have e30 := V.at (zdq hd 30 rfl) rfl
          have e24 := V.at (zdq hd 24 rfl) rfl
          rw [if_neg (by simp [Region.wanted, yielded, e24])]
          exact hK _ undef _ rfl ⟨hB, hz, s0, s1, V.step 31 rfl⟩
        · intro L v W2 hd hn ⟨hB, hz, s0, s1, V⟩ K hK
          have e24 := V.at (zdq hd 24 rfl) rfl
          have e31 := V.at (zdq hd 31 rfl) rfl
          rw [if_pos (by simp [Region.wanted])]
          go_wp2_with fail
          exact hK _ (.bool true) _ (by simp only [Act.put, pA, pB, pC, e24, e31]) ⟨hB, hz, s0, s1, V.step 32 rfl⟩
      · intro L v W2 hL ⟨hB, hz, s0, s1, V⟩
        have e0 := V.at (hL 0 (by decide)) rfl
        have e1 := V.at (hL 1 (by decide)) rfl
        have e2 := V.at (hL 2 (by decide)) rfl
        have e3 := V.at (hL 3 (by decide)) rfl
        have e4 := V.at (hL 4 (by decide)) rfl
        have e5 := V.at (hL 5 (by decide)) rfl
        have e6 := V.at (hL 6 (by decide)) rfl
        have e7 := V.at (hL 7 (by decide)) rfl
        have e8 := V.at (hL 8 (by decide)) rfl
        have e9 := V.at (hL 9 (by decide)) rfl
        have e10 := V.at (hL 10 (by decide)) rfl
        have e11 := V.at (hL 11 (by decide)) rfl
        have e12 := V.at (hL 12 (by decide)) rfl
        have e13 := V.at (hL 13 (by decide)) rfl
        have e14 := V.at (hL 14 (by decide)) rfl
        have e15 := V.at (hL 15 (by decide)) rfl
        have e16 := V.at (hL 16 (by decide)) rfl
        have e17 := V.at (hL 17 (by decide)) rfl
        have e18 := V.at (hL 18 (by decide)) rfl
        have e19 := V.at (hL 19 (by decide)) rfl
        have e20 := V.at (hL 20 (by decide)) rfl
        have e21 := V.at (hL 21 (by decide)) rfl
        have e22 := V.at (hL 22 (by decide)) rfl
        have e23 := V.at (hL 23 (by decide)) rfl
        have e24 := V.at (hL 24 (by decide)) rfl
        have e25 := V.at (hL 25 (by decide)) rfl
        have e26 := V.at (hL 26 (by decide)) rfl
        have e27 := V.at (hL 27 (by decide)) rfl
        have e28 := V.at (hL 28 (by decide)) rfl
        have e29 := V.at (hL 29 (by decide)) rfl
        have e30 := V.at (hL 30 (by decide)) rfl
        have e31 := V.at (hL 31 (by decide)) rfl
        have e32 := V.at (hL 32 (by decide)) rfl
        clear hL V
        simp only [Exit.then, e0, e1, e2, e3, e4, e5, e6, e7, e8, e9, e10, e11, e12, e13, e14, e15, e16, e17, e18, e19, e20, e21, e22, e23, e24, e25, e26, e27, e28, e29, e30, e31, e32]
        clear e0 e1 e2 e3 e4 e5 e6 e7 e8 e9 e10 e11 e12 e13 e14 e15 e16 e17 e18 e19 e20 e21 e22 e23 e24 e25 e26 e27 e28 e29 e30 e31 e32
        replace B0 := s0
        clear s0
        replace B1 := s1
        clear s1
        replace hb := hB
        clear hB
        clear hbase hz lt_B0 lt_B1
        go_wp2_with fail
        go_ret
        exact ⟨by rw [HV.out]; rfl, hb⟩
set_option maxRecDepth 100000 in
set_option maxHeartbeats 9000000 in
theorem impl_IsForm_any (p : Int) (D A B : Nat → Nat) (hD : byte D) (hA : byte A) (hB : byte B) (w : World) :
 Calls Try.prog 61 #[.int .i64 p, .agg (zb 64 D), .agg (frC A B).toArray] w fun e w' => e = .returned (.bool (dcB p D && fmB p D A B)) ∧ Below w.heap.size w w' := by
 have HDC := Lib.hid (fun W => impl_IsDiscriminant_any p D hD W)
 go_enter Try.func61, Try.ntmps61
 go_upto_region 1 with (fail)
 obtain ⟨W1, hwo⟩ : ∃ v : World, v = ((w.alloc (.cells (zb 64 (D)) 23)).alloc (.cells (frC A B).toArray 55)) := ⟨_, rfl⟩
 have B0 : Blk W1 (w.heap.size) 64 23 (D) := by subst hwo; have := ((Blk.new w 64 23 (D)).alloc (.cells (frC A B).toArray 55)); simpa using this
 have B1 : Row W1 (w.heap.size + 1) 55 (frC A B).toArray := by subst hwo; have := (Row.new (w.alloc (.cells (zb 64 (D)) 23)) 55 (frC A B).toArray); simpa using this
 have hb : Below w.heap.size w W1 := by subst hwo; exact (((Below.refl _ _).alloc (Nat.le_refl _) _).alloc (by simp) _)
 rw [← hwo]
 clear hwo
 cases hdc : dcB p D with
 | false =>
  have HV := Lib.hid (show (dcB p D && fmB p D A B) = false by rw [hdc]; rfl)
  rw [hdc] at HDC
  go_upto_region 2 with (first | (refine zla (.tmp 4) B0 Try.underlying23 Try.size23 ?_) | (go_at_call 58; refine (HDC.out _).mono ?_; rintro e W2 ⟨rfl, hW2⟩; replace B0 := B0.zw hW2; replace B1 := B1.zw hW2; replace hb := (hb).trans (hW2.mono (hb).size)))
  go_wp2_with fail
  go_ret
  exact ⟨by rw [HV.out]; rfl, hb⟩
 | true =>
  obtain ⟨n, g, rfl, hpr, lD, _, _⟩ := dcB_out hdc
  rw [hdc] at HDC
  rcases codeL_two (n : Int) [A, B] with hc | hc
  · have ho1 := (codeL_zero hc).2 A (by simp)
    have ho2 := (codeL_zero hc).2 B (by simp)
    go_upto_region 3 with (first | (refine zla (.tmp 4) B0 Try.underlying23 Try.size23 ?_) | (go_at_call 58; refine (HDC.out _).mono ?_; rintro e W2 ⟨rfl, hW2⟩; replace B0 := B0.zw hW2; replace B1 := B1.zw hW2; replace hb := (hb).trans (hW2.mono (hb).size)) | (refine wpList_load_mid_g rfl 23 (.tmp 14) rfl _ 0 rfl (bl 64 A) _ (B1.fra) Try.underlying23 rfl (by rw [zl]; exact Try.size23) ?_) | (refine wpList_load_mid_g rfl 23 (.tmp 16) rfl _ 64 rfl (bl 64 B) _ (B1.frb) Try.underlying23 rfl (by rw [zl]; exact Try.size23) ?_) | (go_at_call 86; refine (checkPolys_any (n : Int) [A, B] (by simp [hA, hB]) _ _ hps (by simp)).mono ?_; rintro e W3 ⟨rfl, hW3⟩; replace B0 := B0.zw hW3; replace B1 := B1.zw hW3; replace hb := (hb).trans (hW3.mono (hb).size); rw [hc]) | (refine wpList_build_polys_g rfl 33 _ [A, B] rfl 23 rfl Try.underlying33 Try.elem23 (by simp) (by simp) rfl ?_; intro wa hwa hps hba; clear hwa; replace B0 := B0.zw hba; replace B1 := B1.zw hba; replace hb := hb.trans (hba.mono hb.size)))
    clear hc
    cases he : eqN 64 A oneP with
    | true =>
     have hgd := Try.noGuard23
     have heq := fun W => zeb (P := Try.prog) W 9998 23 5 64 A oneP Try.underlying23 Try.underlying5 Try.size5
     rw [he] at heq
     go_upto_region 4 with (first | (refine wpList_load_mid rfl 23 (.tmp 22) rfl _ 0 rfl (bl 64 A) _ (B1.fra) Try.underlying23 rfl (by rw [zl]; exact Try.size23) ?_) | (refine zbo rfl 23 _ rfl (zb 64 oneP) (by rw [Array.toList_map]; show Try.prog.built 23 [(0, .int .u8 1)] = some (zb 64 oneP); exact built_one) ?_))
     clear heq hgd
     obtain ⟨hmo, h12⟩ := mon12_1 he
     have HDA := Lib.hid (fun W => degree_any A W)
     have HDB := Lib.hid (fun W => degree_any B W)
     by_cases hBA : deg B < deg A
     · have lA : ∀ k, k < 64 → A k < n := fun k hk => by have := okA_lt ho1 hk; omega
       have lB : ∀ k, k < 64 → B k < n := fun k hk => by have := okA_lt ho2 hk; omega
       obtain ⟨d, hm⟩ := monB_at2 hmo
       have HHS := Lib.hid (fun W => has_any n D A B W hpr lD lA lB (by rw [hm.1]; omega))
       have HV := Lib.hid (show fmB (n : Int) D A B = decide (deg (resP n (sqP n D B) A) < 0) from fmB_v (D := D) ho1 ho2 hmo h12 hBA)
       clear hm lA lB
       have lt_B0 : (w.heap.size) < W3.heap.size := B0.lt
       have lt_B1 : (w.heap.size + 1) < W3.heap.size := B1.lt
       have hbase : w.heap.size ≤ W3.heap.size := hb.size
       refine wp_region_stepsG Try.mixed (by kernel_rfl) (by kernel_rfl) (fun v => by (simp only [frL, Act.put, pA, pB, pC, Nat.reduceAdd, Nat.zero_add]; exact rfl))
        (fun L v W4 => Below w.heap.size w W4 ∧ W3.heap.size ≤ W4.heap.size ∧ Blk W4 (w.heap.size) 64 23 (D) ∧ Row W4 (w.heap.size + 1) 55 (frC A B).toArray ∧ VF L v [some (.bool true), some (.bool true), some (.pointer (some ⟨w.heap.size + 1, 64, none⟩)), some (.agg (zb 64 (B))), some (.int .i64 (deg B)), some (.pointer (some ⟨w.heap.size + 1, 0, none⟩)), some (.agg (zb 64 (A))), some (.int .i64 (deg A)), some (.bool true), some (.bool true), some (.bool true), some (.int .i64 (n : Int)), some (.agg (zb 64 (D))), some (.agg (fdC (n : Int) D).toArray), some (.agg (frC A B).toArray), some (.bool (decide (deg (resP n (sqP n D B) A) < 0))), some (.bool (decide (deg (resP n (sqP n D B) A) < 0))), some (.bool (decide (deg (resP n (sqP n D B) A) < 0)))]) ?_ ?_ ?_
       · intro v hv0
         exact ⟨hb.drew, Nat.le_refl _, B0.drew, B1.drew, VF.start⟩
       · refine (.cons ?_ (.cons ?_ (.cons ?_ (.cons ?_ (.cons ?_ (.cons ?_ (.cons ?_ (.cons ?_ (.cons ?_ (.cons ?_ (.cons ?_ (.cons ?_ (.cons ?_ (.cons ?_ (.cons ?_ (.cons ?_ (.cons ?_ (.cons ?_ (.nil _)))))))))))))))))))
         · intro L v W4 hd hn ⟨hB, hz, s0, s1, V⟩ K hK
           rw [if_pos (by simp [Region.wanted])]
           go_wp2_with fail
           exact hK _ (.bool true) _ (by simp only [Act.put, pA, pB, pC ]) ⟨hB, hz, s0, s1, V.step 0 rfl⟩
         · intro L v W4 hd hn ⟨hB, hz, s0, s1, V⟩ K hK
           have e0 := V.at (zdq hd 0 rfl) rfl
           rw [if_pos (by simp [Region.wanted])]
           go_wp2_with fail
           exact hK _ (.bool true) _ (by simp only [Act.put, pA, pB, pC, e0]) ⟨hB, hz, s0, s1, V.step 1 rfl⟩
         · intro L v W4 hd hn ⟨hB, hz, s0, s1, V⟩ K hK
           have e1 := V.at (zdq hd 1 rfl) rfl
           rw [if_pos (by simp [Region.wanted, yielded, e1])]
           go_wp2_with fail
           exact hK _ (.pointer (some ⟨w.heap.size + 1, 64, none⟩)) _ (by simp only [Act.put, pA, pB, pC, e1]) ⟨hB, hz, s0, s1, V.step 2 rfl⟩
         · intro L v W4 hd hn ⟨hB, hz, s0, s1, V⟩ K hK
           have e2 := V.at (zdq hd 2 rfl) rfl
           have e1 := V.at (zdq hd 1 rfl) rfl
           rw [if_pos (by simp [Region.wanted, yielded, e1])]
           refine wp_load_mid 23 _ rfl _ 64 e2 _ _ (s1.frb) Try.underlying23 rfl (by rw [zl]; exact Try.size23) ?_
           exact hK _ _ _ rfl ⟨hB, hz, s0, s1, V.step 3 rfl⟩
         · intro L v W4 hd hn ⟨hB, hz, s0, s1, V⟩ K hK
           have e3 := V.at (zdq hd 3 rfl) rfl
           have e1 := V.at (zdq hd 1 rfl) rfl
           rw [if_pos (by simp [Region.wanted, yielded, e1])]
           go_wp2_with (go_at_call 92; refine (HDB.out _).mono ?_; rintro e wy ⟨rfl, hy⟩)
           exact hK _ (.int .i64 (deg B)) _ (by simp only [Act.put, pA, pB, pC, e3, e1]) ⟨hB.trans (hy.mono hB.size), (Nat.le_trans hz hy.size), s0.zw hy, s1.zw hy, V.step 4 rfl⟩
         · intro L v W4 hd hn ⟨hB, hz, s0, s1, V⟩ K hK
           have e1 := V.at (zdq hd 1 rfl) rfl
           rw [if_pos (by simp [Region.wanted, yielded, e1])]
           go_wp2_with fail
           exact hK _ (.pointer (some ⟨w.heap.size + 1, 0, none⟩)) _ (by simp only [Act.put, pA, pB, pC, e1]) ⟨hB, hz, s0, s1, V.step 5 rfl⟩
         · intro L v W4 hd hn ⟨hB, hz, s0, s1, V⟩ K hK
           have e5 := V.at (zdq hd 5 rfl) rfl
           have e1 := V.at (zdq hd 1 rfl) rfl
           rw [if_pos (by simp [Region.wanted, yielded, e1])]
           refine wp_load_mid 23 _ rfl _ 0 e5 _ _ (s1.fra) Try.underlying23 rfl (by rw [zl]; exact Try.size23) ?_
           exact hK _ _ _ rfl ⟨hB, hz, s0, s1, V.step 6 rfl⟩
         · intro L v W4 hd hn ⟨hB, hz, s0, s1, V⟩ K hK
           have e6 := V.at (zdq hd 6 rfl) rfl
           have e1 := V.at (zdq hd 1 rfl) rfl
           rw [if_pos (by simp [Region.wanted, yielded, e1])]
           go_wp2_with (go_at_call 92; refine (HDA.out _).mono ?_; rintro e wy ⟨rfl, hy⟩)
           exact hK _ (.int .i64 (deg A)) _ (by simp only [Act.put, pA, pB, pC, e6, e1]) ⟨hB.trans (hy.mono hB.size), (Nat.le_trans hz hy.size), s0.zw hy, s1.zw hy, V.step 7 rfl⟩
         · intro L v W4 hd hn ⟨hB, hz, s0, s1, V⟩ K hK
           have e4 := V.at (zdq hd 4 rfl) rfl
           have e7 := V.at (zdq hd 7 rfl) rfl
           have e1 := V.at (zdq hd 1 rfl) rfl
           rw [if_pos (by simp [Region.wanted, yielded, e1])]
           go_wp2_with fail
           try rw [show decide (deg B < deg A) = true by simpa using hBA]
           exact hK _ (.bool true) _ (by simp only [Act.put, pA, pB, pC, e4, e7, e1]) ⟨hB, hz, s0, s1, V.step 8 rfl⟩
         · intro L v W4 hd hn ⟨hB, hz, s0, s1, V⟩ K hK
           have e1 := V.at (zdq hd 1 rfl) rfl
           have e8 := V.at (zdq hd 8 rfl) rfl
           rw [if_pos (by simp [Region.wanted])]
           go_wp2_with fail
           exact hK _ (.bool true) _ (by simp only [Act.put, pA, pB, pC, e1, e8]) ⟨hB, hz, s0, s1, V.step 9 rfl⟩
         · intro L v W4 hd hn ⟨hB, hz, s0, s1, V⟩ K hK
           have e9 := V.at (zdq hd 9 rfl) rfl
           rw [if_pos (by simp [Region.wanted])]
           go_wp2_with fail
           exact hK _ (.bool true) _ (by simp only [Act.put, pA, pB, pC, e9]) ⟨hB, hz, s0, s1, V.step 10 rfl⟩
         · intro L v W4 hd hn ⟨hB, hz, s0, s1, V⟩ K hK
           have e10 := V.at (zdq hd 10 rfl) rfl
           rw [if_pos (by simp [Region.wanted, yielded, e10])]
           go_wp2_with fail
           exact hK _ (.int .i64 (n : Int)) _ (by simp only [Act.put, pA, pB, pC, e10]) ⟨hB, hz, s0, s1, V.step 11 rfl⟩
         · intro L v W4 hd hn ⟨hB, hz, s0, s1, V⟩ K hK
           have e10 := V.at (zdq hd 10 rfl) rfl
           rw [if_pos (by simp [Region.wanted, yielded, e10])]
           refine zlc s0 Try.underlying23 Try.size23 ?_
           exact hK _ _ _ rfl ⟨hB, hz, s0, s1, V.step 12 rfl⟩
         · intro L v W4 hd hn ⟨hB, hz, s0, s1, V⟩ K hK
           have e11 := V.at (zdq hd 11 rfl) rfl
           have e12 := V.at (zdq hd 12 rfl) rfl
           have e10 := V.at (zdq hd 10 rfl) rfl
           rw [if_pos (by simp [Region.wanted, yielded, e10])]
           refine wp_build_of 107 _ rfl (fdC (n : Int) D).toArray (by rw [Array.toList_map]; simp only [e11, e12, Act.eval]; exact built_cv _ _) ?_
           exact hK _ _ _ rfl ⟨hB, hz, s0, s1, V.step 13 rfl⟩
         · intro L v W4 hd hn ⟨hB, hz, s0, s1, V⟩ K hK
           have e10 := V.at (zdq hd 10 rfl) rfl
           rw [if_pos (by simp [Region.wanted, yielded, e10])]
           refine wp_load_rowv 55 _ rfl _ rfl 55 _ s1 _ Try.underlying55 rfl 128 Try.size55 (by simp [frC_len]) ?_
           exact hK _ _ _ rfl ⟨hB, hz, s0, s1, V.step 14 rfl⟩
         · intro L v W4 hd hn ⟨hB, hz, s0, s1, V⟩ K hK
           have e13 := V.at (zdq hd 13 rfl) rfl
           have e14 := V.at (zdq hd 14 rfl) rfl
           have e10 := V.at (zdq hd 10 rfl) rfl
           rw [if_pos (by simp [Region.wanted, yielded, e10])]
           go_wp2_with (go_at_call 126; refine (HHS.out _).mono ?_; rintro e wy ⟨rfl, hy⟩)
           exact hK _ (.bool (decide (deg (resP n (sqP n D B) A) < 0))) _ (by simp only [Act.put, pA, pB, pC, e13, e14, e10]) ⟨hB.trans (hy.mono hB.size), (Nat.le_trans hz hy.size), s0.zw hy, s1.zw hy, V.step 15 rfl⟩
         · intro L v W4 hd hn ⟨hB, hz, s0, s1, V⟩ K hK
           have e10 := V.at (zdq hd 10 rfl) rfl
           have e15 := V.at (zdq hd 15 rfl) rfl
           rw [if_pos (by simp [Region.wanted])]
           go_wp2_with fail
           exact hK _ (.bool (decide (deg (resP n (sqP n D B) A) < 0))) _ (by simp only [Act.put, pA, pB, pC, e10, e15]) ⟨hB, hz, s0, s1, V.step 16 rfl⟩
         · intro L v W4 hd hn ⟨hB, hz, s0, s1, V⟩ K hK
           have e16 := V.at (zdq hd 16 rfl) rfl
           rw [if_pos (by simp [Region.wanted])]
           go_wp2_with fail
           exact hK _ (.bool (decide (deg (resP n (sqP n D B) A) < 0))) _ (by simp only [Act.put, pA, pB, pC, e16]) ⟨hB, hz, s0, s1, V.step 17 rfl⟩
       · intro L v W4 hL ⟨hB, hz, s0, s1, V⟩
         have e0 := V.at (hL 0 (by decide)) rfl
         have e1 := V.at (hL 1 (by decide)) rfl
         have e2 := V.at (hL 2 (by decide)) rfl
         have e3 := V.at (hL 3 (by decide)) rfl
         have e4 := V.at (hL 4 (by decide)) rfl
         have e5 := V.at (hL 5 (by decide)) rfl
         have e6 := V.at (hL 6 (by decide)) rfl
         have e7 := V.at (hL 7 (by decide)) rfl
         have e8 := V.at (hL 8 (by decide)) rfl
         have e9 := V.at (hL 9 (by decide)) rfl
         have e10 := V.at (hL 10 (by decide)) rfl
         have e11 := V.at (hL 11 (by decide)) rfl
         have e12 := V.at (hL 12 (by decide)) rfl
         have e13 := V.at (hL 13 (by decide)) rfl
         have e14 := V.at (hL 14 (by decide)) rfl
         have e15 := V.at (hL 15 (by decide)) rfl
         have e16 := V.at (hL 16 (by decide)) rfl
         have e17 := V.at (hL 17 (by decide)) rfl
         clear hL V
         simp only [Exit.then, e0, e1, e2, e3, e4, e5, e6, e7, e8, e9, e10, e11, e12, e13, e14, e15, e16, e17]
         clear e0 e1 e2 e3 e4 e5 e6 e7 e8 e9 e10 e11 e12 e13 e14 e15 e16 e17
         replace B0 := s0
         clear s0
         replace B1 := s1
         clear s1
         replace hb := hB
         clear hB
         clear hbase hz lt_B0 lt_B1
         go_wp2_with fail
         go_ret
         exact ⟨by (try rw [hdc]); rw [HV.out]; rfl, hb⟩
     · have HV := Lib.hid (show fmB (n : Int) D A B = false from fmB_5 (p := (n : Int)) (D := D) hBA)
       have lt_B0 : (w.heap.size) < W3.heap.size := B0.lt
       have lt_B1 : (w.heap.size + 1) < W3.heap.size := B1.lt
       have hbase : w.heap.size ≤ W3.heap.size := hb.size
       refine wp_region_stepsG Try.mixed (by kernel_rfl) (by kernel_rfl) (fun v => by (simp only [frL, Act.put, pA, pB, pC, Nat.reduceAdd, Nat.zero_add]; exact rfl))
        (fun L v W4 => Below w.heap.size w W4 ∧ W3.heap.size ≤ W4.heap.size ∧ Blk W4 (w.heap.size) 64 23 (D) ∧ Row W4 (w.heap.size + 1) 55 (frC A B).toArray ∧ VF L v [some (.bool true), some (.bool true), some (.pointer (some ⟨w.heap.size + 1, 64, none⟩)), some (.agg (zb 64 (B))), some (.int .i64 (deg B)), some (.pointer (some ⟨w.heap.size + 1, 0, none⟩)), some (.agg (zb 64 (A))), some (.int .i64 (deg A)), some (.bool false), some (.bool false), some (.bool false), some undef, some undef, some undef, some undef, some undef, some (.bool false), some (.bool false)]) ?_ ?_ ?_
       · intro v hv0
         exact ⟨hb.drew, Nat.le_refl _, B0.drew, B1.drew, VF.start⟩
       · refine (.cons ?_ (.cons ?_ (.cons ?_ (.cons ?_ (.cons ?_ (.cons ?_ (.cons ?_ (.cons ?_ (.cons ?_ (.cons ?_ (.cons ?_ (.cons ?_ (.cons ?_ (.cons ?_ (.cons ?_ (.cons ?_ (.cons ?_ (.cons ?_ (.nil _)))))))))))))))))))
         · intro L v W4 hd hn ⟨hB, hz, s0, s1, V⟩ K hK
           rw [if_pos (by simp [Region.wanted])]
           go_wp2_with fail
           exact hK _ (.bool true) _ (by simp only [Act.put, pA, pB, pC ]) ⟨hB, hz, s0, s1, V.step 0 rfl⟩
         · intro L v W4 hd hn ⟨hB, hz, s0, s1, V⟩ K hK
           have e0 := V.at (zdq hd 0 rfl) rfl
           rw [if_pos (by simp [Region.wanted])]
           go_wp2_with fail
           exact hK _ (.bool true) _ (by simp only [Act.put, pA, pB, pC, e0]) ⟨hB, hz, s0, s1, V.step 1 rfl⟩
         · intro L v W4 hd hn ⟨hB, hz, s0, s1, V⟩ K hK
           have e1 := V.at (zdq hd 1 rfl) rfl
           rw [if_pos (by simp [Region.wanted, yielded, e1])]
           go_wp2_with fail
           exact hK _ (.pointer (some ⟨w.heap.size + 1, 64, none⟩)) _ (by simp only [Act.put, pA, pB, pC, e1]) ⟨hB, hz, s0, s1, V.step 2 rfl⟩
         · intro L v W4 hd hn ⟨hB, hz, s0, s1, V⟩ K hK
           have e2 := V.at (zdq hd 2 rfl) rfl
           have e1 := V.at (zdq hd 1 rfl) rfl
           rw [if_pos (by simp [Region.wanted, yielded, e1])]
           refine wp_load_mid 23 _ rfl _ 64 e2 _ _ (s1.frb) Try.underlying23 rfl (by rw [zl]; exact Try.size23) ?_
           exact hK _ _ _ rfl ⟨hB, hz, s0, s1, V.step 3 rfl⟩
         · intro L v W4 hd hn ⟨hB, hz, s0, s1, V⟩ K hK
           have e3 := V.at (zdq hd 3 rfl) rfl
           have e1 := V.at (zdq hd 1 rfl) rfl
           rw [if_pos (by simp [Region.wanted, yielded, e1])]
           go_wp2_with (go_at_call 92; refine (HDB.out _).mono ?_; rintro e wy ⟨rfl, hy⟩)
           exact hK _ (.int .i64 (deg B)) _ (by simp only [Act.put, pA, pB, pC, e3, e1]) ⟨hB.trans (hy.mono hB.size), (Nat.le_trans hz hy.size), s0.zw hy, s1.zw hy, V.step 4 rfl⟩
         · intro L v W4 hd hn ⟨hB, hz, s0, s1, V⟩ K hK
           have e1 := V.at (zdq hd 1 rfl) rfl
           rw [if_pos (by simp [Region.wanted, yielded, e1])]
           go_wp2_with fail
           exact hK _ (.pointer (some ⟨w.heap.size + 1, 0, none⟩)) _ (by simp only [Act.put, pA, pB, pC, e1]) ⟨hB, hz, s0, s1, V.step 5 rfl⟩
         · intro L v W4 hd hn ⟨hB, hz, s0, s1, V⟩ K hK
           have e5 := V.at (zdq hd 5 rfl) rfl
           have e1 := V.at (zdq hd 1 rfl) rfl
           rw [if_pos (by simp [Region.wanted, yielded, e1])]
           refine wp_load_mid 23 _ rfl _ 0 e5 _ _ (s1.fra) Try.underlying23 rfl (by rw [zl]; exact Try.size23) ?_
           exact hK _ _ _ rfl ⟨hB, hz, s0, s1, V.step 6 rfl⟩
         · intro L v W4 hd hn ⟨hB, hz, s0, s1, V⟩ K hK
           have e6 := V.at (zdq hd 6 rfl) rfl
           have e1 := V.at (zdq hd 1 rfl) rfl
           rw [if_pos (by simp [Region.wanted, yielded, e1])]
           go_wp2_with (go_at_call 92; refine (HDA.out _).mono ?_; rintro e wy ⟨rfl, hy⟩)
           exact hK _ (.int .i64 (deg A)) _ (by simp only [Act.put, pA, pB, pC, e6, e1]) ⟨hB.trans (hy.mono hB.size), (Nat.le_trans hz hy.size), s0.zw hy, s1.zw hy, V.step 7 rfl⟩
         · intro L v W4 hd hn ⟨hB, hz, s0, s1, V⟩ K hK
           have e4 := V.at (zdq hd 4 rfl) rfl
           have e7 := V.at (zdq hd 7 rfl) rfl
           have e1 := V.at (zdq hd 1 rfl) rfl
           rw [if_pos (by simp [Region.wanted, yielded, e1])]
           go_wp2_with fail
           try rw [show decide (deg B < deg A) = false by simpa using hBA]
           exact hK _ (.bool false) _ (by simp only [Act.put, pA, pB, pC, e4, e7, e1]) ⟨hB, hz, s0, s1, V.step 8 rfl⟩
         · intro L v W4 hd hn ⟨hB, hz, s0, s1, V⟩ K hK
           have e1 := V.at (zdq hd 1 rfl) rfl
           have e8 := V.at (zdq hd 8 rfl) rfl
           rw [if_pos (by simp [Region.wanted])]
           go_wp2_with fail
           exact hK _ (.bool false) _ (by simp only [Act.put, pA, pB, pC, e1, e8]) ⟨hB, hz, s0, s1, V.step 9 rfl⟩
         · intro L v W4 hd hn ⟨hB, hz, s0, s1, V⟩ K hK
           have e9 := V.at (zdq hd 9 rfl) rfl
           rw [if_pos (by simp [Region.wanted])]
           go_wp2_with fail
           exact hK _ (.bool false) _ (by simp only [Act.put, pA, pB, pC, e9]) ⟨hB, hz, s0, s1, V.step 10 rfl⟩
         · intro L v W4 hd hn ⟨hB, hz, s0, s1, V⟩ K hK
           have e10 := V.at (zdq hd 10 rfl) rfl
           rw [if_neg (by simp [Region.wanted, yielded, e10])]
           exact hK _ undef _ rfl ⟨hB, hz, s0, s1, V.step 11 rfl⟩
         · intro L v W4 hd hn ⟨hB, hz, s0, s1, V⟩ K hK
           have e10 := V.at (zdq hd 10 rfl) rfl
           rw [if_neg (by simp [Region.wanted, yielded, e10])]
           exact hK _ undef _ rfl ⟨hB, hz, s0, s1, V.step 12 rfl⟩
         · intro L v W4 hd hn ⟨hB, hz, s0, s1, V⟩ K hK
           have e11 := V.at (zdq hd 11 rfl) rfl
           have e12 := V.at (zdq hd 12 rfl) rfl
           have e10 := V.at (zdq hd 10 rfl) rfl
           rw [if_neg (by simp [Region.wanted, yielded, e10])]
           exact hK _ undef _ rfl ⟨hB, hz, s0, s1, V.step 13 rfl⟩
         · intro L v W4 hd hn ⟨hB, hz, s0, s1, V⟩ K hK
           have e10 := V.at (zdq hd 10 rfl) rfl
           rw [if_neg (by simp [Region.wanted, yielded, e10])]
           exact hK _ undef _ rfl ⟨hB, hz, s0, s1, V.step 14 rfl⟩
         · intro L v W4 hd hn ⟨hB, hz, s0, s1, V⟩ K hK
           have e13 := V.at (zdq hd 13 rfl) rfl
           have e14 := V.at (zdq hd 14 rfl) rfl
           have e10 := V.at (zdq hd 10 rfl) rfl
           rw [if_neg (by simp [Region.wanted, yielded, e10])]
           exact hK _ undef _ rfl ⟨hB, hz, s0, s1, V.step 15 rfl⟩
         · intro L v W4 hd hn ⟨hB, hz, s0, s1, V⟩ K hK
           have e10 := V.at (zdq hd 10 rfl) rfl
           have e15 := V.at (zdq hd 15 rfl) rfl
           rw [if_pos (by simp [Region.wanted])]
           go_wp2_with fail
           exact hK _ (.bool false) _ (by simp only [Act.put, pA, pB, pC, e10, e15]) ⟨hB, hz, s0, s1, V.step 16 rfl⟩
         · intro L v W4 hd hn ⟨hB, hz, s0, s1, V⟩ K hK
           have e16 := V.at (zdq hd 16 rfl) rfl
           rw [if_pos (by simp [Region.wanted])]
           go_wp2_with fail
           exact hK _ (.bool false) _ (by simp only [Act.put, pA, pB, pC, e16]) ⟨hB, hz, s0, s1, V.step 17 rfl⟩
       · intro L v W4 hL ⟨hB, hz, s0, s1, V⟩
         have e0 := V.at (hL 0 (by decide)) rfl
         have e1 := V.at (hL 1 (by decide)) rfl
         have e2 := V.at (hL 2 (by decide)) rfl
         have e3 := V.at (hL 3 (by decide)) rfl
         have e4 := V.at (hL 4 (by decide)) rfl
         have e5 := V.at (hL 5 (by decide)) rfl
         have e6 := V.at (hL 6 (by decide)) rfl
         have e7 := V.at (hL 7 (by decide)) rfl
         have e8 := V.at (hL 8 (by decide)) rfl
         have e9 := V.at (hL 9 (by decide)) rfl
         have e10 := V.at (hL 10 (by decide)) rfl
         have e11 := V.at (hL 11 (by decide)) rfl
         have e12 := V.at (hL 12 (by decide)) rfl
         have e13 := V.at (hL 13 (by decide)) rfl
         have e14 := V.at (hL 14 (by decide)) rfl
         have e15 := V.at (hL 15 (by decide)) rfl
         have e16 := V.at (hL 16 (by decide)) rfl
         have e17 := V.at (hL 17 (by decide)) rfl
         clear hL V
         simp only [Exit.then, e0, e1, e2, e3, e4, e5, e6, e7, e8, e9, e10, e11, e12, e13, e14, e15, e16, e17]
         clear e0 e1 e2 e3 e4 e5 e6 e7 e8 e9 e10 e11 e12 e13 e14 e15 e16 e17
         replace B0 := s0
         clear s0
         replace B1 := s1
         clear s1
         replace hb := hB
         clear hB
         clear hbase hz lt_B0 lt_B1
         go_wp2_with fail
         go_ret
         exact ⟨by (try rw [hdc]); rw [HV.out]; rfl, hb⟩
    | false =>
     have HMU := Lib.hid (fun W => isMonicUpTo_any 12 A hA W (by omega) (by omega))
     cases hmu : monUp 12 A with
     | true =>
      rw [hmu] at HMU
      have hgd := Try.noGuard23
      have heq := fun W => zeb (P := Try.prog) W 9998 23 5 64 A oneP Try.underlying23 Try.underlying5 Try.size5
      rw [he] at heq
      go_upto_region 4 with (first | (refine wpList_load_mid rfl 23 (.tmp 22) rfl _ 0 rfl (bl 64 A) _ (B1.fra) Try.underlying23 rfl (by rw [zl]; exact Try.size23) ?_) | (refine wpList_load_mid_g rfl 23 (.tmp 27) rfl _ 0 rfl (bl 64 A) _ (B1.fra) Try.underlying23 rfl (by rw [zl]; exact Try.size23) ?_) | (go_at_call 123; refine (HMU.out _).mono ?_; rintro e W4 ⟨rfl, hW4⟩; replace B0 := B0.zw hW4; replace B1 := B1.zw hW4; replace hb := (hb).trans (hW4.mono (hb).size)) | (refine zbo rfl 23 _ rfl (zb 64 oneP) (by rw [Array.toList_map]; show Try.prog.built 23 [(0, .int .u8 1)] = some (zb 64 oneP); exact built_one) ?_))
      clear heq hgd
      obtain ⟨hmo, h12⟩ := mon12_2 hmu
      have HDA := Lib.hid (fun W => degree_any A W)
      have HDB := Lib.hid (fun W => degree_any B W)
      by_cases hBA : deg B < deg A
      · have lA : ∀ k, k < 64 → A k < n := fun k hk => by have := okA_lt ho1 hk; omega
        have lB : ∀ k, k < 64 → B k < n := fun k hk => by have := okA_lt ho2 hk; omega
        obtain ⟨d, hm⟩ := monB_at2 hmo
        have HHS := Lib.hid (fun W => has_any n D A B W hpr lD lA lB (by rw [hm.1]; omega))
        have HV := Lib.hid (show fmB (n : Int) D A B = decide (deg (resP n (sqP n D B) A) < 0) from fmB_v (D := D) ho1 ho2 hmo h12 hBA)
        clear hm lA lB
        have lt_B0 : (w.heap.size) < W4.heap.size := B0.lt
        have lt_B1 : (w.heap.size + 1) < W4.heap.size := B1.lt
        have hbase : w.heap.size ≤ W4.heap.size := hb.size
        refine wp_region_stepsG Try.mixed (by kernel_rfl) (by kernel_rfl) (fun v => by (simp only [frL, Act.put, pA, pB, pC, Nat.reduceAdd, Nat.zero_add]; exact rfl))
         (fun L v W5 => Below w.heap.size w W5 ∧ W4.heap.size ≤ W5.heap.size ∧ Blk W5 (w.heap.size) 64 23 (D) ∧ Row W5 (w.heap.size + 1) 55 (frC A B).toArray ∧ VF L v [some (.bool true), some (.bool true), some (.pointer (some ⟨w.heap.size + 1, 64, none⟩)), some (.agg (zb 64 (B))), some (.int .i64 (deg B)), some (.pointer (some ⟨w.heap.size + 1, 0, none⟩)), some (.agg (zb 64 (A))), some (.int .i64 (deg A)), some (.bool true), some (.bool true), some (.bool true), some (.int .i64 (n : Int)), some (.agg (zb 64 (D))), some (.agg (fdC (n : Int) D).toArray), some (.agg (frC A B).toArray), some (.bool (decide (deg (resP n (sqP n D B) A) < 0))), some (.bool (decide (deg (resP n (sqP n D B) A) < 0))), some (.bool (decide (deg (resP n (sqP n D B) A) < 0)))]) ?_ ?_ ?_
        · intro v hv0
          exact ⟨hb.drew, Nat.le_refl _, B0.drew, B1.drew, VF.start⟩
        · refine (.cons ?_ (.cons ?_ (.cons ?_ (.cons ?_ (.cons ?_ (.cons ?_ (.cons ?_ (.cons ?_ (.cons ?_ (.cons ?_ (.cons ?_ (.cons ?_ (.cons ?_ (.cons ?_ (.cons ?_ (.cons ?_ (.cons ?_ (.cons ?_ (.nil _)))))))))))))))))))
          · intro L v W5 hd hn ⟨hB, hz, s0, s1, V⟩ K hK
            rw [if_pos (by simp [Region.wanted])]
            go_wp2_with fail
            exact hK _ (.bool true) _ (by simp only [Act.put, pA, pB, pC ]) ⟨hB, hz, s0, s1, V.step 0 rfl⟩
          · intro L v W5 hd hn ⟨hB, hz, s0, s1, V⟩ K hK
            have e0 := V.at (zdq hd 0 rfl) rfl
            rw [if_pos (by simp [Region.wanted])]
            go_wp2_with fail
            exact hK _ (.bool true) _ (by simp only [Act.put, pA, pB, pC, e0]) ⟨hB, hz, s0, s1, V.step 1 rfl⟩
          · intro L v W5 hd hn ⟨hB, hz, s0, s1, V⟩ K hK
            have e1 := V.at (zdq hd 1 rfl) rfl
            rw [if_pos (by simp [Region.wanted, yielded, e1])]
            go_wp2_with fail
            exact hK _ (.pointer (some ⟨w.heap.size + 1, 64, none⟩)) _ (by simp only [Act.put, pA, pB, pC, e1]) ⟨hB, hz, s0, s1, V.step 2 rfl⟩
          · intro L v W5 hd hn ⟨hB, hz, s0, s1, V⟩ K hK
            have e2 := V.at (zdq hd 2 rfl) rfl
            have e1 := V.at (zdq hd 1 rfl) rfl
            rw [if_pos (by simp [Region.wanted, yielded, e1])]
            refine wp_load_mid 23 _ rfl _ 64 e2 _ _ (s1.frb) Try.underlying23 rfl (by rw [zl]; exact Try.size23) ?_
            exact hK _ _ _ rfl ⟨hB, hz, s0, s1, V.step 3 rfl⟩
          · intro L v W5 hd hn ⟨hB, hz, s0, s1, V⟩ K hK
            have e3 := V.at (zdq hd 3 rfl) rfl
            have e1 := V.at (zdq hd 1 rfl) rfl
            rw [if_pos (by simp [Region.wanted, yielded, e1])]
            go_wp2_with (go_at_call 92; refine (HDB.out _).mono ?_; rintro e wy ⟨rfl, hy⟩)
            exact hK _ (.int .i64 (deg B)) _ (by simp only [Act.put, pA, pB, pC, e3, e1]) ⟨hB.trans (hy.mono hB.size), (Nat.le_trans hz hy.size), s0.zw hy, s1.zw hy, V.step 4 rfl⟩
          · intro L v W5 hd hn ⟨hB, hz, s0, s1, V⟩ K hK
            have e1 := V.at (zdq hd 1 rfl) rfl
            rw [if_pos (by simp [Region.wanted, yielded, e1])]
            go_wp2_with fail
            exact hK _ (.pointer (some ⟨w.heap.size + 1, 0, none⟩)) _ (by simp only [Act.put, pA, pB, pC, e1]) ⟨hB, hz, s0, s1, V.step 5 rfl⟩
          · intro L v W5 hd hn ⟨hB, hz, s0, s1, V⟩ K hK
            have e5 := V.at (zdq hd 5 rfl) rfl
            have e1 := V.at (zdq hd 1 rfl) rfl
            rw [if_pos (by simp [Region.wanted, yielded, e1])]
            refine wp_load_mid 23 _ rfl _ 0 e5 _ _ (s1.fra) Try.underlying23 rfl (by rw [zl]; exact Try.size23) ?_
            exact hK _ _ _ rfl ⟨hB, hz, s0, s1, V.step 6 rfl⟩
          · intro L v W5 hd hn ⟨hB, hz, s0, s1, V⟩ K hK
            have e6 := V.at (zdq hd 6 rfl) rfl
            have e1 := V.at (zdq hd 1 rfl) rfl
            rw [if_pos (by simp [Region.wanted, yielded, e1])]
            go_wp2_with (go_at_call 92; refine (HDA.out _).mono ?_; rintro e wy ⟨rfl, hy⟩)
            exact hK _ (.int .i64 (deg A)) _ (by simp only [Act.put, pA, pB, pC, e6, e1]) ⟨hB.trans (hy.mono hB.size), (Nat.le_trans hz hy.size), s0.zw hy, s1.zw hy, V.step 7 rfl⟩
          · intro L v W5 hd hn ⟨hB, hz, s0, s1, V⟩ K hK
            have e4 := V.at (zdq hd 4 rfl) rfl
            have e7 := V.at (zdq hd 7 rfl) rfl
            have e1 := V.at (zdq hd 1 rfl) rfl
            rw [if_pos (by simp [Region.wanted, yielded, e1])]
            go_wp2_with fail
            try rw [show decide (deg B < deg A) = true by simpa using hBA]
            exact hK _ (.bool true) _ (by simp only [Act.put, pA, pB, pC, e4, e7, e1]) ⟨hB, hz, s0, s1, V.step 8 rfl⟩
          · intro L v W5 hd hn ⟨hB, hz, s0, s1, V⟩ K hK
            have e1 := V.at (zdq hd 1 rfl) rfl
            have e8 := V.at (zdq hd 8 rfl) rfl
            rw [if_pos (by simp [Region.wanted])]
            go_wp2_with fail
            exact hK _ (.bool true) _ (by simp only [Act.put, pA, pB, pC, e1, e8]) ⟨hB, hz, s0, s1, V.step 9 rfl⟩
          · intro L v W5 hd hn ⟨hB, hz, s0, s1, V⟩ K hK
            have e9 := V.at (zdq hd 9 rfl) rfl
            rw [if_pos (by simp [Region.wanted])]
            go_wp2_with fail
            exact hK _ (.bool true) _ (by simp only [Act.put, pA, pB, pC, e9]) ⟨hB, hz, s0, s1, V.step 10 rfl⟩
          · intro L v W5 hd hn ⟨hB, hz, s0, s1, V⟩ K hK
            have e10 := V.at (zdq hd 10 rfl) rfl
            rw [if_pos (by simp [Region.wanted, yielded, e10])]
            go_wp2_with fail
            exact hK _ (.int .i64 (n : Int)) _ (by simp only [Act.put, pA, pB, pC, e10]) ⟨hB, hz, s0, s1, V.step 11 rfl⟩
          · intro L v W5 hd hn ⟨hB, hz, s0, s1, V⟩ K hK
            have e10 := V.at (zdq hd 10 rfl) rfl
            rw [if_pos (by simp [Region.wanted, yielded, e10])]
            refine zlc s0 Try.underlying23 Try.size23 ?_
            exact hK _ _ _ rfl ⟨hB, hz, s0, s1, V.step 12 rfl⟩
          · intro L v W5 hd hn ⟨hB, hz, s0, s1, V⟩ K hK
            have e11 := V.at (zdq hd 11 rfl) rfl
            have e12 := V.at (zdq hd 12 rfl) rfl
            have e10 := V.at (zdq hd 10 rfl) rfl
            rw [if_pos (by simp [Region.wanted, yielded, e10])]
            refine wp_build_of 107 _ rfl (fdC (n : Int) D).toArray (by rw [Array.toList_map]; simp only [e11, e12, Act.eval]; exact built_cv _ _) ?_
            exact hK _ _ _ rfl ⟨hB, hz, s0, s1, V.step 13 rfl⟩
          · intro L v W5 hd hn ⟨hB, hz, s0, s1, V⟩ K hK
            have e10 := V.at (zdq hd 10 rfl) rfl
            rw [if_pos (by simp [Region.wanted, yielded, e10])]
            refine wp_load_rowv 55 _ rfl _ rfl 55 _ s1 _ Try.underlying55 rfl 128 Try.size55 (by simp [frC_len]) ?_
            exact hK _ _ _ rfl ⟨hB, hz, s0, s1, V.step 14 rfl⟩
          · intro L v W5 hd hn ⟨hB, hz, s0, s1, V⟩ K hK
            have e13 := V.at (zdq hd 13 rfl) rfl
            have e14 := V.at (zdq hd 14 rfl) rfl
            have e10 := V.at (zdq hd 10 rfl) rfl
            rw [if_pos (by simp [Region.wanted, yielded, e10])]
            go_wp2_with (go_at_call 126; refine (HHS.out _).mono ?_; rintro e wy ⟨rfl, hy⟩)
            exact hK _ (.bool (decide (deg (resP n (sqP n D B) A) < 0))) _ (by simp only [Act.put, pA, pB, pC, e13, e14, e10]) ⟨hB.trans (hy.mono hB.size), (Nat.le_trans hz hy.size), s0.zw hy, s1.zw hy, V.step 15 rfl⟩
          · intro L v W5 hd hn ⟨hB, hz, s0, s1, V⟩ K hK
            have e10 := V.at (zdq hd 10 rfl) rfl
            have e15 := V.at (zdq hd 15 rfl) rfl
            rw [if_pos (by simp [Region.wanted])]
            go_wp2_with fail
            exact hK _ (.bool (decide (deg (resP n (sqP n D B) A) < 0))) _ (by simp only [Act.put, pA, pB, pC, e10, e15]) ⟨hB, hz, s0, s1, V.step 16 rfl⟩
          · intro L v W5 hd hn ⟨hB, hz, s0, s1, V⟩ K hK
            have e16 := V.at (zdq hd 16 rfl) rfl
            rw [if_pos (by simp [Region.wanted])]
            go_wp2_with fail
            exact hK _ (.bool (decide (deg (resP n (sqP n D B) A) < 0))) _ (by simp only [Act.put, pA, pB, pC, e16]) ⟨hB, hz, s0, s1, V.step 17 rfl⟩
        · intro L v W5 hL ⟨hB, hz, s0, s1, V⟩
          have e0 := V.at (hL 0 (by decide)) rfl
          have e1 := V.at (hL 1 (by decide)) rfl
          have e2 := V.at (hL 2 (by decide)) rfl
          have e3 := V.at (hL 3 (by decide)) rfl
          have e4 := V.at (hL 4 (by decide)) rfl
          have e5 := V.at (hL 5 (by decide)) rfl
          have e6 := V.at (hL 6 (by decide)) rfl
          have e7 := V.at (hL 7 (by decide)) rfl
          have e8 := V.at (hL 8 (by decide)) rfl
          have e9 := V.at (hL 9 (by decide)) rfl
          have e10 := V.at (hL 10 (by decide)) rfl
          have e11 := V.at (hL 11 (by decide)) rfl
          have e12 := V.at (hL 12 (by decide)) rfl
          have e13 := V.at (hL 13 (by decide)) rfl
          have e14 := V.at (hL 14 (by decide)) rfl
          have e15 := V.at (hL 15 (by decide)) rfl
          have e16 := V.at (hL 16 (by decide)) rfl
          have e17 := V.at (hL 17 (by decide)) rfl
          clear hL V
          simp only [Exit.then, e0, e1, e2, e3, e4, e5, e6, e7, e8, e9, e10, e11, e12, e13, e14, e15, e16, e17]
          clear e0 e1 e2 e3 e4 e5 e6 e7 e8 e9 e10 e11 e12 e13 e14 e15 e16 e17
          replace B0 := s0
          clear s0
          replace B1 := s1
          clear s1
          replace hb := hB
          clear hB
          clear hbase hz lt_B0 lt_B1
          go_wp2_with fail
          go_ret
          exact ⟨by (try rw [hdc]); rw [HV.out]; rfl, hb⟩
      · have HV := Lib.hid (show fmB (n : Int) D A B = false from fmB_5 (p := (n : Int)) (D := D) hBA)
        have lt_B0 : (w.heap.size) < W4.heap.size := B0.lt
        have lt_B1 : (w.heap.size + 1) < W4.heap.size := B1.lt
        have hbase : w.heap.size ≤ W4.heap.size := hb.size
        refine wp_region_stepsG Try.mixed (by kernel_rfl) (by kernel_rfl) (fun v => by (simp only [frL, Act.put, pA, pB, pC, Nat.reduceAdd, Nat.zero_add]; exact rfl))
         (fun L v W5 => Below w.heap.size w W5 ∧ W4.heap.size ≤ W5.heap.size ∧ Blk W5 (w.heap.size) 64 23 (D) ∧ Row W5 (w.heap.size + 1) 55 (frC A B).toArray ∧ VF L v [some (.bool true), some (.bool true), some (.pointer (some ⟨w.heap.size + 1, 64, none⟩)), some (.agg (zb 64 (B))), some (.int .i64 (deg B)), some (.pointer (some ⟨w.heap.size + 1, 0, none⟩)), some (.agg (zb 64 (A))), some (.int .i64 (deg A)), some (.bool false), some (.bool false), some (.bool false), some undef, some undef, some undef, some undef, some undef, some (.bool false), some (.bool false)]) ?_ ?_ ?_
        · intro v hv0
          exact ⟨hb.drew, Nat.le_refl _, B0.drew, B1.drew, VF.start⟩
        · refine (.cons ?_ (.cons ?_ (.cons ?_ (.cons ?_ (.cons ?_ (.cons ?_ (.cons ?_ (.cons ?_ (.cons ?_ (.cons ?_ (.cons ?_ (.cons ?_ (.cons ?_ (.cons ?_ (.cons ?_ (.cons ?_ (.cons ?_ (.cons ?_ (.nil _)))))))))))))))))))
          · intro L v W5 hd hn ⟨hB, hz, s0, s1, V⟩ K hK
            rw [if_pos (by simp [Region.wanted])]
            go_wp2_with fail
            exact hK _ (.bool true) _ (by simp only [Act.put, pA, pB, pC ]) ⟨hB, hz, s0, s1, V.step 0 rfl⟩
          · intro L v W5 hd hn ⟨hB, hz, s0, s1, V⟩ K hK
            have e0 := V.at (zdq hd 0 rfl) rfl
            rw [if_pos (by simp [Region.wanted])]
            go_wp2_with fail
            exact hK _ (.bool true) _ (by simp only [Act.put, pA, pB, pC, e0]) ⟨hB, hz, s0, s1, V.step 1 rfl⟩
          · intro L v W5 hd hn ⟨hB, hz, s0, s1, V⟩ K hK
            have e1 := V.at (zdq hd 1 rfl) rfl
            rw [if_pos (by simp [Region.wanted, yielded, e1])]
            go_wp2_with fail
            exact hK _ (.pointer (some ⟨w.heap.size + 1, 64, none⟩)) _ (by simp only [Act.put, pA, pB, pC, e1]) ⟨hB, hz, s0, s1, V.step 2 rfl⟩
          · intro L v W5 hd hn ⟨hB, hz, s0, s1, V⟩ K hK
            have e2 := V.at (zdq hd 2 rfl) rfl
            have e1 := V.at (zdq hd 1 rfl) rfl
            rw [if_pos (by simp [Region.wanted, yielded, e1])]
            refine wp_load_mid 23 _ rfl _ 64 e2 _ _ (s1.frb) Try.underlying23 rfl (by rw [zl]; exact Try.size23) ?_
            exact hK _ _ _ rfl ⟨hB, hz, s0, s1, V.step 3 rfl⟩
          · intro L v W5 hd hn ⟨hB, hz, s0, s1, V⟩ K hK
            have e3 := V.at (zdq hd 3 rfl) rfl
            have e1 := V.at (zdq hd 1 rfl) rfl
            rw [if_pos (by simp [Region.wanted, yielded, e1])]
            go_wp2_with (go_at_call 92; refine (HDB.out _).mono ?_; rintro e wy ⟨rfl, hy⟩)
            exact hK _ (.int .i64 (deg B)) _ (by simp only [Act.put, pA, pB, pC, e3, e1]) ⟨hB.trans (hy.mono hB.size), (Nat.le_trans hz hy.size), s0.zw hy, s1.zw hy, V.step 4 rfl⟩
          · intro L v W5 hd hn ⟨hB, hz, s0, s1, V⟩ K hK
            have e1 := V.at (zdq hd 1 rfl) rfl
            rw [if_pos (by simp [Region.wanted, yielded, e1])]
            go_wp2_with fail
            exact hK _ (.pointer (some ⟨w.heap.size + 1, 0, none⟩)) _ (by simp only [Act.put, pA, pB, pC, e1]) ⟨hB, hz, s0, s1, V.step 5 rfl⟩
          · intro L v W5 hd hn ⟨hB, hz, s0, s1, V⟩ K hK
            have e5 := V.at (zdq hd 5 rfl) rfl
            have e1 := V.at (zdq hd 1 rfl) rfl
            rw [if_pos (by simp [Region.wanted, yielded, e1])]
            refine wp_load_mid 23 _ rfl _ 0 e5 _ _ (s1.fra) Try.underlying23 rfl (by rw [zl]; exact Try.size23) ?_
            exact hK _ _ _ rfl ⟨hB, hz, s0, s1, V.step 6 rfl⟩
          · intro L v W5 hd hn ⟨hB, hz, s0, s1, V⟩ K hK
            have e6 := V.at (zdq hd 6 rfl) rfl
            have e1 := V.at (zdq hd 1 rfl) rfl
            rw [if_pos (by simp [Region.wanted, yielded, e1])]
            go_wp2_with (go_at_call 92; refine (HDA.out _).mono ?_; rintro e wy ⟨rfl, hy⟩)
            exact hK _ (.int .i64 (deg A)) _ (by simp only [Act.put, pA, pB, pC, e6, e1]) ⟨hB.trans (hy.mono hB.size), (Nat.le_trans hz hy.size), s0.zw hy, s1.zw hy, V.step 7 rfl⟩
          · intro L v W5 hd hn ⟨hB, hz, s0, s1, V⟩ K hK
            have e4 := V.at (zdq hd 4 rfl) rfl
            have e7 := V.at (zdq hd 7 rfl) rfl
            have e1 := V.at (zdq hd 1 rfl) rfl
            rw [if_pos (by simp [Region.wanted, yielded, e1])]
            go_wp2_with fail
            try rw [show decide (deg B < deg A) = false by simpa using hBA]
            exact hK _ (.bool false) _ (by simp only [Act.put, pA, pB, pC, e4, e7, e1]) ⟨hB, hz, s0, s1, V.step 8 rfl⟩
          · intro L v W5 hd hn ⟨hB, hz, s0, s1, V⟩ K hK
            have e1 := V.at (zdq hd 1 rfl) rfl
            have e8 := V.at (zdq hd 8 rfl) rfl
            rw [if_pos (by simp [Region.wanted])]
            go_wp2_with fail
            exact hK _ (.bool false) _ (by simp only [Act.put, pA, pB, pC, e1, e8]) ⟨hB, hz, s0, s1, V.step 9 rfl⟩
          · intro L v W5 hd hn ⟨hB, hz, s0, s1, V⟩ K hK
            have e9 := V.at (zdq hd 9 rfl) rfl
            rw [if_pos (by simp [Region.wanted])]
            go_wp2_with fail
            exact hK _ (.bool false) _ (by simp only [Act.put, pA, pB, pC, e9]) ⟨hB, hz, s0, s1, V.step 10 rfl⟩
          · intro L v W5 hd hn ⟨hB, hz, s0, s1, V⟩ K hK
            have e10 := V.at (zdq hd 10 rfl) rfl
            rw [if_neg (by simp [Region.wanted, yielded, e10])]
            exact hK _ undef _ rfl ⟨hB, hz, s0, s1, V.step 11 rfl⟩
          · intro L v W5 hd hn ⟨hB, hz, s0, s1, V⟩ K hK
            have e10 := V.at (zdq hd 10 rfl) rfl
            rw [if_neg (by simp [Region.wanted, yielded, e10])]
            exact hK _ undef _ rfl ⟨hB, hz, s0, s1, V.step 12 rfl⟩
          · intro L v W5 hd hn ⟨hB, hz, s0, s1, V⟩ K hK
            have e11 := V.at (zdq hd 11 rfl) rfl
            have e12 := V.at (zdq hd 12 rfl) rfl
            have e10 := V.at (zdq hd 10 rfl) rfl
            rw [if_neg (by simp [Region.wanted, yielded, e10])]
            exact hK _ undef _ rfl ⟨hB, hz, s0, s1, V.step 13 rfl⟩
          · intro L v W5 hd hn ⟨hB, hz, s0, s1, V⟩ K hK
            have e10 := V.at (zdq hd 10 rfl) rfl
            rw [if_neg (by simp [Region.wanted, yielded, e10])]
            exact hK _ undef _ rfl ⟨hB, hz, s0, s1, V.step 14 rfl⟩
          · intro L v W5 hd hn ⟨hB, hz, s0, s1, V⟩ K hK
            have e13 := V.at (zdq hd 13 rfl) rfl
            have e14 := V.at (zdq hd 14 rfl) rfl
            have e10 := V.at (zdq hd 10 rfl) rfl
            rw [if_neg (by simp [Region.wanted, yielded, e10])]
            exact hK _ undef _ rfl ⟨hB, hz, s0, s1, V.step 15 rfl⟩
          · intro L v W5 hd hn ⟨hB, hz, s0, s1, V⟩ K hK
            have e10 := V.at (zdq hd 10 rfl) rfl
            have e15 := V.at (zdq hd 15 rfl) rfl
            rw [if_pos (by simp [Region.wanted])]
            go_wp2_with fail
            exact hK _ (.bool false) _ (by simp only [Act.put, pA, pB, pC, e10, e15]) ⟨hB, hz, s0, s1, V.step 16 rfl⟩
          · intro L v W5 hd hn ⟨hB, hz, s0, s1, V⟩ K hK
            have e16 := V.at (zdq hd 16 rfl) rfl
            rw [if_pos (by simp [Region.wanted])]
            go_wp2_with fail
            exact hK _ (.bool false) _ (by simp only [Act.put, pA, pB, pC, e16]) ⟨hB, hz, s0, s1, V.step 17 rfl⟩
        · intro L v W5 hL ⟨hB, hz, s0, s1, V⟩
          have e0 := V.at (hL 0 (by decide)) rfl
          have e1 := V.at (hL 1 (by decide)) rfl
          have e2 := V.at (hL 2 (by decide)) rfl
          have e3 := V.at (hL 3 (by decide)) rfl
          have e4 := V.at (hL 4 (by decide)) rfl
          have e5 := V.at (hL 5 (by decide)) rfl
          have e6 := V.at (hL 6 (by decide)) rfl
          have e7 := V.at (hL 7 (by decide)) rfl
          have e8 := V.at (hL 8 (by decide)) rfl
          have e9 := V.at (hL 9 (by decide)) rfl
          have e10 := V.at (hL 10 (by decide)) rfl
          have e11 := V.at (hL 11 (by decide)) rfl
          have e12 := V.at (hL 12 (by decide)) rfl
          have e13 := V.at (hL 13 (by decide)) rfl
          have e14 := V.at (hL 14 (by decide)) rfl
          have e15 := V.at (hL 15 (by decide)) rfl
          have e16 := V.at (hL 16 (by decide)) rfl
          have e17 := V.at (hL 17 (by decide)) rfl
          clear hL V
          simp only [Exit.then, e0, e1, e2, e3, e4, e5, e6, e7, e8, e9, e10, e11, e12, e13, e14, e15, e16, e17]
          clear e0 e1 e2 e3 e4 e5 e6 e7 e8 e9 e10 e11 e12 e13 e14 e15 e16 e17
          replace B0 := s0
          clear s0
          replace B1 := s1
          clear s1
          replace hb := hB
          clear hB
          clear hbase hz lt_B0 lt_B1
          go_wp2_with fail
          go_ret
          exact ⟨by (try rw [hdc]); rw [HV.out]; rfl, hb⟩
     | false =>
      rw [hmu] at HMU
      have hgd := Try.noGuard23
      have heq := fun W => zeb (P := Try.prog) W 9998 23 5 64 A oneP Try.underlying23 Try.underlying5 Try.size5
      rw [he] at heq
      have HV := Lib.hid (show fmB (n : Int) D A B = false from mon12_3 (p := (n : Int)) (D := D) (B := B) he hmu)
      go_upto_region 4 with (first | (refine wpList_load_mid rfl 23 (.tmp 22) rfl _ 0 rfl (bl 64 A) _ (B1.fra) Try.underlying23 rfl (by rw [zl]; exact Try.size23) ?_) | (refine wpList_load_mid_g rfl 23 (.tmp 27) rfl _ 0 rfl (bl 64 A) _ (B1.fra) Try.underlying23 rfl (by rw [zl]; exact Try.size23) ?_) | (go_at_call 123; refine (HMU.out _).mono ?_; rintro e W4 ⟨rfl, hW4⟩; replace B0 := B0.zw hW4; replace B1 := B1.zw hW4; replace hb := (hb).trans (hW4.mono (hb).size)) | (refine zbo rfl 23 _ rfl (zb 64 oneP) (by rw [Array.toList_map]; show Try.prog.built 23 [(0, .int .u8 1)] = some (zb 64 oneP); exact built_one) ?_))
      clear heq hgd
      have lt_B0 : (w.heap.size) < W4.heap.size := B0.lt
      have lt_B1 : (w.heap.size + 1) < W4.heap.size := B1.lt
      have hbase : w.heap.size ≤ W4.heap.size := hb.size
      refine wp_region_stepsG Try.mixed (by kernel_rfl) (by kernel_rfl) (fun v => by (simp only [frL, Act.put, pA, pB, pC, Nat.reduceAdd, Nat.zero_add]; exact rfl))
       (fun L v W5 => Below w.heap.size w W5 ∧ W4.heap.size ≤ W5.heap.size ∧ Blk W5 (w.heap.size) 64 23 (D) ∧ Row W5 (w.heap.size + 1) 55 (frC A B).toArray ∧ VF L v [some (.bool false), some (.bool false), some undef, some undef, some undef, some undef, some undef, some undef, some undef, some (.bool false), some (.bool false), some undef, some undef, some undef, some undef, some undef, some (.bool false), some (.bool false)]) ?_ ?_ ?_
      · intro v hv0
        exact ⟨hb.drew, Nat.le_refl _, B0.drew, B1.drew, VF.start⟩
      · refine (.cons ?_ (.cons ?_ (.cons ?_ (.cons ?_ (.cons ?_ (.cons ?_ (.cons ?_ (.cons ?_ (.cons ?_ (.cons ?_ (.cons ?_ (.cons ?_ (.cons ?_ (.cons ?_ (.cons ?_ (.cons ?_ (.cons ?_ (.cons ?_ (.nil _)))))))))))))))))))
        · intro L v W5 hd hn ⟨hB, hz, s0, s1, V⟩ K hK
          rw [if_pos (by simp [Region.wanted])]
          go_wp2_with fail
          exact hK _ (.bool false) _ (by simp only [Act.put, pA, pB, pC ]) ⟨hB, hz, s0, s1, V.step 0 rfl⟩
        · intro L v W5 hd hn ⟨hB, hz, s0, s1, V⟩ K hK
          have e0 := V.at (zdq hd 0 rfl) rfl
          rw [if_pos (by simp [Region.wanted])]
          go_wp2_with fail
          exact hK _ (.bool false) _ (by simp only [Act.put, pA, pB, pC, e0]) ⟨hB, hz, s0, s1, V.step 1 rfl⟩
        · intro L v W5 hd hn ⟨hB, hz, s0, s1, V⟩ K hK
          have e1 := V.at (zdq hd 1 rfl) rfl
          rw [if_neg (by simp [Region.wanted, yielded, e1])]
          exact hK _ undef _ rfl ⟨hB, hz, s0, s1, V.step 2 rfl⟩
        · intro L v W5 hd hn ⟨hB, hz, s0, s1, V⟩ K hK
          have e2 := V.at (zdq hd 2 rfl) rfl
          have e1 := V.at (zdq hd 1 rfl) rfl
          rw [if_neg (by simp [Region.wanted, yielded, e1])]
          exact hK _ undef _ rfl ⟨hB, hz, s0, s1, V.step 3 rfl⟩
        · intro L v W5 hd hn ⟨hB, hz, s0, s1, V⟩ K hK
          have e3 := V.at (zdq hd 3 rfl) rfl
          have e1 := V.at (zdq hd 1 rfl) rfl
          rw [if_neg (by simp [Region.wanted, yielded, e1])]
          exact hK _ undef _ rfl ⟨hB, hz, s0, s1, V.step 4 rfl⟩
        · intro L v W5 hd hn ⟨hB, hz, s0, s1, V⟩ K hK
          have e1 := V.at (zdq hd 1 rfl) rfl
          rw [if_neg (by simp [Region.wanted, yielded, e1])]
          exact hK _ undef _ rfl ⟨hB, hz, s0, s1, V.step 5 rfl⟩
        · intro L v W5 hd hn ⟨hB, hz, s0, s1, V⟩ K hK
          have e5 := V.at (zdq hd 5 rfl) rfl
          have e1 := V.at (zdq hd 1 rfl) rfl
          rw [if_neg (by simp [Region.wanted, yielded, e1])]
          exact hK _ undef _ rfl ⟨hB, hz, s0, s1, V.step 6 rfl⟩
        · intro L v W5 hd hn ⟨hB, hz, s0, s1, V⟩ K hK
          have e6 := V.at (zdq hd 6 rfl) rfl
          have e1 := V.at (zdq hd 1 rfl) rfl
          rw [if_neg (by simp [Region.wanted, yielded, e1])]
          exact hK _ undef _ rfl ⟨hB, hz, s0, s1, V.step 7 rfl⟩
        · intro L v W5 hd hn ⟨hB, hz, s0, s1, V⟩ K hK
          have e4 := V.at (zdq hd 4 rfl) rfl
          have e7 := V.at (zdq hd 7 rfl) rfl
          have e1 := V.at (zdq hd 1 rfl) rfl
          rw [if_neg (by simp [Region.wanted, yielded, e1])]
          exact hK _ undef _ rfl ⟨hB, hz, s0, s1, V.step 8 rfl⟩
        · intro L v W5 hd hn ⟨hB, hz, s0, s1, V⟩ K hK
          have e1 := V.at (zdq hd 1 rfl) rfl
          have e8 := V.at (zdq hd 8 rfl) rfl
          rw [if_pos (by simp [Region.wanted])]
          go_wp2_with fail
          exact hK _ (.bool false) _ (by simp only [Act.put, pA, pB, pC, e1, e8]) ⟨hB, hz, s0, s1, V.step 9 rfl⟩
        · intro L v W5 hd hn ⟨hB, hz, s0, s1, V⟩ K hK
          have e9 := V.at (zdq hd 9 rfl) rfl
          rw [if_pos (by simp [Region.wanted])]
          go_wp2_with fail
          exact hK _ (.bool false) _ (by simp only [Act.put, pA, pB, pC, e9]) ⟨hB, hz, s0, s1, V.step 10 rfl⟩
        · intro L v W5 hd hn ⟨hB, hz, s0, s1, V⟩ K hK
          have e10 := V.at (zdq hd 10 rfl) rfl
          rw [if_neg (by simp [Region.wanted, yielded, e10])]
          exact hK _ undef _ rfl ⟨hB, hz, s0, s1, V.step 11 rfl⟩
        · intro L v W5 hd hn ⟨hB, hz, s0, s1, V⟩ K hK
          have e10 := V.at (zdq hd 10 rfl) rfl
          rw [if_neg (by simp [Region.wanted, yielded, e10])]
          exact hK _ undef _ rfl ⟨hB, hz, s0, s1, V.step 12 rfl⟩
        · intro L v W5 hd hn ⟨hB, hz, s0, s1, V⟩ K hK
          have e11 := V.at (zdq hd 11 rfl) rfl
          have e12 := V.at (zdq hd 12 rfl) rfl
          have e10 := V.at (zdq hd 10 rfl) rfl
          rw [if_neg (by simp [Region.wanted, yielded, e10])]
          exact hK _ undef _ rfl ⟨hB, hz, s0, s1, V.step 13 rfl⟩
        · intro L v W5 hd hn ⟨hB, hz, s0, s1, V⟩ K hK
          have e10 := V.at (zdq hd 10 rfl) rfl
          rw [if_neg (by simp [Region.wanted, yielded, e10])]
          exact hK _ undef _ rfl ⟨hB, hz, s0, s1, V.step 14 rfl⟩
        · intro L v W5 hd hn ⟨hB, hz, s0, s1, V⟩ K hK
          have e13 := V.at (zdq hd 13 rfl) rfl
          have e14 := V.at (zdq hd 14 rfl) rfl
          have e10 := V.at (zdq hd 10 rfl) rfl
          rw [if_neg (by simp [Region.wanted, yielded, e10])]
          exact hK _ undef _ rfl ⟨hB, hz, s0, s1, V.step 15 rfl⟩
        · intro L v W5 hd hn ⟨hB, hz, s0, s1, V⟩ K hK
          have e10 := V.at (zdq hd 10 rfl) rfl
          have e15 := V.at (zdq hd 15 rfl) rfl
          rw [if_pos (by simp [Region.wanted])]
          go_wp2_with fail
          exact hK _ (.bool false) _ (by simp only [Act.put, pA, pB, pC, e10, e15]) ⟨hB, hz, s0, s1, V.step 16 rfl⟩
        · intro L v W5 hd hn ⟨hB, hz, s0, s1, V⟩ K hK
          have e16 := V.at (zdq hd 16 rfl) rfl
          rw [if_pos (by simp [Region.wanted])]
          go_wp2_with fail
          exact hK _ (.bool false) _ (by simp only [Act.put, pA, pB, pC, e16]) ⟨hB, hz, s0, s1, V.step 17 rfl⟩
      · intro L v W5 hL ⟨hB, hz, s0, s1, V⟩
        have e0 := V.at (hL 0 (by decide)) rfl
        have e1 := V.at (hL 1 (by decide)) rfl
        have e2 := V.at (hL 2 (by decide)) rfl
        have e3 := V.at (hL 3 (by decide)) rfl
        have e4 := V.at (hL 4 (by decide)) rfl
        have e5 := V.at (hL 5 (by decide)) rfl
        have e6 := V.at (hL 6 (by decide)) rfl
        have e7 := V.at (hL 7 (by decide)) rfl
        have e8 := V.at (hL 8 (by decide)) rfl
        have e9 := V.at (hL 9 (by decide)) rfl
        have e10 := V.at (hL 10 (by decide)) rfl
        have e11 := V.at (hL 11 (by decide)) rfl
        have e12 := V.at (hL 12 (by decide)) rfl
        have e13 := V.at (hL 13 (by decide)) rfl
        have e14 := V.at (hL 14 (by decide)) rfl
        have e15 := V.at (hL 15 (by decide)) rfl
        have e16 := V.at (hL 16 (by decide)) rfl
        have e17 := V.at (hL 17 (by decide)) rfl
        clear hL V
        simp only [Exit.then, e0, e1, e2, e3, e4, e5, e6, e7, e8, e9, e10, e11, e12, e13, e14, e15, e16, e17]
        clear e0 e1 e2 e3 e4 e5 e6 e7 e8 e9 e10 e11 e12 e13 e14 e15 e16 e17
        replace B0 := s0
        clear s0
        replace B1 := s1
        clear s1
        replace hb := hB
        clear hB
        clear hbase hz lt_B0 lt_B1
        go_wp2_with fail
        go_ret
        exact ⟨by (try rw [hdc]); rw [HV.out]; rfl, hb⟩
  · have HV := Lib.hid (show fmB (n : Int) D A B = false from fmB_code (D := D) hc)
    go_upto_region 2 with (first | (refine zla (.tmp 4) B0 Try.underlying23 Try.size23 ?_) | (go_at_call 58; refine (HDC.out _).mono ?_; rintro e W2 ⟨rfl, hW2⟩; replace B0 := B0.zw hW2; replace B1 := B1.zw hW2; replace hb := (hb).trans (hW2.mono (hb).size)) | (refine wpList_load_mid_g rfl 23 (.tmp 14) rfl _ 0 rfl (bl 64 A) _ (B1.fra) Try.underlying23 rfl (by rw [zl]; exact Try.size23) ?_) | (refine wpList_load_mid_g rfl 23 (.tmp 16) rfl _ 64 rfl (bl 64 B) _ (B1.frb) Try.underlying23 rfl (by rw [zl]; exact Try.size23) ?_) | (go_at_call 86; refine (checkPolys_any (n : Int) [A, B] (by simp [hA, hB]) _ _ hps (by simp)).mono ?_; rintro e W3 ⟨rfl, hW3⟩; replace B0 := B0.zw hW3; replace B1 := B1.zw hW3; replace hb := (hb).trans (hW3.mono (hb).size); rw [hc]) | (refine wpList_build_polys_g rfl 33 _ [A, B] rfl 23 rfl Try.underlying33 Try.elem23 (by simp) (by simp) rfl ?_; intro wa hwa hps hba; clear hwa; replace B0 := B0.zw hba; replace B1 := B1.zw hba; replace hb := hb.trans (hba.mono hb.size)))
    go_wp2_with fail
    go_ret
    exact ⟨by (try rw [hdc]); rw [HV.out]; rfl, hb⟩
end Go.Proofs.Ytoncepgcfifgbaa
end
