/-
  What the rows of this claim rest on: arrays of bytes, walks of the functions, plain mathematics.
-/
import Derived.Test.YtoncepgcfifgbaaZh3
section
namespace Go.Proofs.Ytoncepgcfifgbaa
open Go Go.RowKit
set_option linter.unusedVariables false
set_option linter.unusedSimpArgs false
attribute [local irreducible] deg invN quoP resP prd bzD bzU bzW sqP okA monB dvN
/-- a discriminant -/
noncomputable def dcB (p : Int) (D : Nat → Nat) : Bool := okA p D && (!decide (p = 2) && (decide (deg D = 1 ∨ deg D = 3 ∨ deg D = 5) && decide (deg (bzD p.toNat D (dvN p.toNat D)) = 0)))
theorem dcB_1 {p : Int} {D : Nat → Nat} (h : okA p D = false) : dcB p D = false := by unfold dcB; rw [h]; rfl
theorem dcB_2 {p : Int} {D : Nat → Nat} (h : p = 2) : dcB p D = false := by unfold dcB; simp [h]
theorem dcB_3 {p : Int} {D : Nat → Nat} (h : ¬ (deg D = 1 ∨ deg D = 3 ∨ deg D = 5)) : dcB p D = false := by unfold dcB; rw [show decide (deg D = 1 ∨ deg D = 3 ∨ deg D = 5) = false from decide_eq_false h]; simp
theorem dcB_v {n : Nat} {D : Nat → Nat} (h : okA (n : Int) D = true) (h2 : ¬ (n : Int) = 2) (h3 : deg D = 1 ∨ deg D = 3 ∨ deg D = 5) : dcB (n : Int) D = decide (deg (bzD n D (dvN n D)) = 0) := by
 unfold dcB; rw [h, decide_eq_false h2, decide_eq_true h3, Int.toNat_natCast]; rfl
theorem dcB_out {p : Int} {D : Nat → Nat} (h : dcB p D = true) : ∃ n g : Nat, p = (n : Int) ∧ (n = 2 ∨ n = 3 ∨ n = 5 ∨ n = 7) ∧ (∀ k, k < 64 → D k < n) ∧ g ≤ 2 ∧ deg D = ((2 * g + 1 : Nat) : Int) := by
 unfold dcB at h
 simp only [Bool.and_eq_true, decide_eq_true_eq] at h
 obtain ⟨h1, _, h3, _⟩ := h
 obtain ⟨n, hn, hpr, hl⟩ := okA_nat h1
 rcases h3 with h3 | h3 | h3
 · exact ⟨n, 0, hn, hpr, hl, by omega, by omega⟩
 · exact ⟨n, 1, hn, hpr, hl, by omega, by omega⟩
 · exact ⟨n, 2, hn, hpr, hl, by omega, by omega⟩
/-- a form of a discriminant -/
noncomputable def fmB (p : Int) (D A B : Nat → Nat) : Bool := okA p A && (okA p B && (monB A && (decide (deg A ≤ 12) && (decide (deg B < deg A) && decide (deg (resP p.toNat (sqP p.toNat D B) A) < 0)))))
theorem fmB_1 {p : Int} {D A B : Nat → Nat} (h : okA p A = false) : fmB p D A B = false := by unfold fmB; rw [h]; rfl
theorem fmB_2 {p : Int} {D A B : Nat → Nat} (h : okA p B = false) : fmB p D A B = false := by unfold fmB; rw [h]; simp
theorem fmB_3 {p : Int} {D A B : Nat → Nat} (h : monB A = false) : fmB p D A B = false := by unfold fmB; rw [h]; simp
theorem fmB_4 {p : Int} {D A B : Nat → Nat} (h : ¬ deg A ≤ 12) : fmB p D A B = false := by unfold fmB; rw [decide_eq_false h]; simp
theorem fmB_5 {p : Int} {D A B : Nat → Nat} (h : ¬ deg B < deg A) : fmB p D A B = false := by unfold fmB; rw [decide_eq_false h]; simp
theorem fmB_v {n : Nat} {D A B : Nat → Nat} (h1 : okA (n : Int) A = true) (h2 : okA (n : Int) B = true) (h3 : monB A = true) (h4 : deg A ≤ 12) (h5 : deg B < deg A) : fmB (n : Int) D A B = decide (deg (resP n (sqP n D B) A) < 0) := by
 unfold fmB; rw [h1, h2, h3, decide_eq_true h4, decide_eq_true h5, Int.toNat_natCast]; rfl
theorem monB_at2 {A : Nat → Nat} (h : monB A = true) : ∃ d : Nat, mon A d := by
 unfold monB at h
 simp only [decide_eq_true_eq] at h
 exact ⟨(deg A).toNat, by omega, h.2⟩
theorem fmB_out {n : Nat} {D A B : Nat → Nat} (hpr : n = 2 ∨ n = 3 ∨ n = 5 ∨ n = 7) (h : fmB (n : Int) D A B = true) : fmI n D A B := by
 unfold fmB at h
 simp only [Bool.and_eq_true, decide_eq_true_eq, Int.toNat_natCast] at h
 obtain ⟨h1, h2, h3, h4, h5, h6⟩ := h
 have lA : ∀ k, k < 64 → A k < n := fun k hk => by have := okA_lt h1 hk; omega
 have lB : ∀ k, k < 64 → B k < n := fun k hk => by have := okA_lt h2 hk; omega
 obtain ⟨d, hd⟩ := monB_at2 h3
 refine ⟨lA, lB, ⟨d, hd, by have := hd.1; omega⟩, h5, ?_⟩
 exact (res_zero_iff hpr (fun k _ => sqP_ltI (by omega) k) lA (by rw [hd.1]; omega)).1 h6
attribute [irreducible] dcB fmB
set_option maxRecDepth 100000 in
set_option maxHeartbeats 3200000 in
theorem impl_IsDiscriminant_any (p : Int) (D : Nat → Nat) (hD : byte D) (w : World) :
 Calls Try.prog 58 #[.int .i64 p, .agg (zb 64 D)] w fun e w' => e = .returned (.bool (dcB p D)) ∧ Below w.heap.size w w' := by
 have HOK := Lib.hid (fun W => IsPoly_any p D hD W)
 go_enter Try.func58, Try.ntmps58
 go_upto_region 1 with (fail)
 obtain ⟨W1, hwo⟩ : ∃ v : World, v = (w.alloc (.cells (zb 64 (D)) 23)) := ⟨_, rfl⟩
 have B0 : Blk W1 (w.heap.size) 64 23 (D) := by subst hwo; have := (Blk.new w 64 23 (D)); simpa using this
 have hb : Below w.heap.size w W1 := by subst hwo; exact ((Below.refl _ _).alloc (Nat.le_refl _) _)
 rw [← hwo]
 clear hwo
 by_cases hp2 : p = 2
 · subst hp2
   have HV := Lib.hid (dcB_2 (p := 2) (D := D) rfl)
   go_upto_region 2 with (fail)
   go_wp2_with fail
   go_ret
   exact ⟨by rw [HV.out]; rfl, hb⟩
 · have hne : (p == 2) = false := beq_eq_false_iff_ne.2 hp2
   cases ho : okA p D with
   | false =>
    have HV := Lib.hid (dcB_1 ho)
    go_upto_region 2 with (first | (refine zlg rfl 23 (.tmp 3) rfl _ rfl 64 23 _ (B0) _ Try.underlying23 rfl Try.size23 ?_) | (go_at_call 122; refine (HOK.out _).mono ?_; rintro e W2 ⟨rfl, hW2⟩; replace B0 := B0.zw hW2; replace hb := (hb).trans (hW2.mono (hb).size); rw [ho]))
    go_wp2_with fail
    go_ret
    exact ⟨by rw [HV.out]; rfl, hb⟩
   | true =>
    obtain ⟨n, rfl, hpr, lD⟩ := okA_nat ho
    go_upto_region 3 with (first | (refine zlg rfl 23 (.tmp 3) rfl _ rfl 64 23 _ (B0) _ Try.underlying23 rfl Try.size23 ?_) | (go_at_call 122; refine (HOK.out _).mono ?_; rintro e W2 ⟨rfl, hW2⟩; replace B0 := B0.zw hW2; replace hb := (hb).trans (hW2.mono (hb).size); rw [ho]))
    clear hne
    have HDG := Lib.hid (fun W => degree_any D W)
    by_cases hd : deg D = 1 ∨ deg D = 3 ∨ deg D = 5
    · obtain ⟨q, hq⟩ : ∃ q : Int, q = deg D := ⟨_, rfl⟩
      have HV := Lib.hid (dcB_v ho hp2 hd)
      have h0 : 0 ≤ deg D := by omega
      have HDV := Lib.hid (fun W => derivative_any n D W (by omega) (by omega) lD)
      have HUN := Lib.hid (fun W => isUnit_any n (dvN n D) D W hpr (fun k _ => dvN_lt (by omega) k) lD h0)
      rw [gcd_one hpr lD (fun k _ => dvN_lt (by omega) k) h0] at HUN
      obtain ⟨QQ, hQQ⟩ : ∃ QQ, QQ = deg (bzD n D (dvN n D)) := ⟨_, rfl⟩
      rw [← hQQ] at HV HUN
      clear hQQ h0 hpr lD hD hp2 ho hq
      cases hz : decide (QQ = 0) with
      | true =>
       rw [hz] at HV HUN
       rcases hd with hd | hd | hd
       · rw [hd] at HDG
         clear hd
         go_upto_region 7 with (first | (refine zla (.tmp 3) B0 Try.underlying23 Try.size23 ?_) | (go_at_call 92; refine (HDG.out _).mono ?_; rintro e W3 ⟨rfl, hW3⟩; replace B0 := B0.zw hW3; replace hb := (hb).trans (hW3.mono (hb).size)))
         refine zq Try.mixed (by kernel_rfl) (by kernel_rfl) (fun v => by (simp only [frL, Act.put, pA, pB, pC, Nat.reduceAdd, Nat.zero_add]; exact rfl))
          (fun L v W4 => Below W3.heap.size W3 W4 ∧ VF L v [some (.int .i64 (n : Int)), some (.int .i64 (n : Int)), some (.agg (zb 64 (D))), some (.agg (zb 64 (dvN n D))), some (.agg (zb 64 (D))), some (.bool true), some (.bool true)]) ?_ ?_ ?_
         · intro v hv0
           exact ⟨(Below.refl _ W3).drew, VF.start⟩
         · refine (.cons rfl ?_ (.cons rfl ?_ (.cons rfl ?_ (.cons rfl ?_ (.cons rfl ?_ (.cons rfl ?_ (.cons rfl ?_ (.nil _))))))))
           all_goals intro L v W4 hd hn ⟨hY, V⟩ K hK
           · go_wp2_with fail
             exact hK _ (.int .i64 (n : Int)) _ (by simp only [Act.put, pA, pB, pC ]) ⟨hY, V.step 0 rfl⟩
           · go_wp2_with fail
             exact hK _ (.int .i64 (n : Int)) _ (by simp only [Act.put, pA, pB, pC ]) ⟨hY, V.step 1 rfl⟩
           · refine zlc (B0.zw hY) Try.underlying23 Try.size23 ?_
             exact hK _ _ _ rfl ⟨hY, V.step 2 rfl⟩
           · have e1 := V.at (zdq hd 1 rfl) rfl
             have e2 := V.at (zdq hd 2 rfl) rfl
             go_wp2_with (go_at_call 87; refine (HDV.out _).mono ?_; rintro e wy ⟨rfl, hy⟩)
             exact hK _ (.agg (zb 64 (dvN n D))) _ (by simp only [Act.put, pA, pB, pC, e1, e2]) ⟨hY.trans (hy.mono hY.size), V.step 3 rfl⟩
           · refine zlc (B0.zw hY) Try.underlying23 Try.size23 ?_
             exact hK _ _ _ rfl ⟨hY, V.step 4 rfl⟩
           · have e0 := V.at (zdq hd 0 rfl) rfl
             have e3 := V.at (zdq hd 3 rfl) rfl
             have e4 := V.at (zdq hd 4 rfl) rfl
             go_wp2_with (go_at_call 119; refine (HUN.out _).mono ?_; rintro e wy ⟨rfl, hy⟩)
             exact hK _ (.bool true) _ (by simp only [Act.put, pA, pB, pC, e0, e3, e4]) ⟨hY.trans (hy.mono hY.size), V.step 5 rfl⟩
           · have e5 := V.at (zdq hd 5 rfl) rfl
             go_wp2_with fail
             exact hK _ (.bool true) _ (by simp only [Act.put, pA, pB, pC, e5]) ⟨hY, V.step 6 rfl⟩
         · intro L v W4 hL ⟨hY, V⟩
           have e0 := V.at (hL 0 (by decide)) rfl
           have e1 := V.at (hL 1 (by decide)) rfl
           have e2 := V.at (hL 2 (by decide)) rfl
           have e3 := V.at (hL 3 (by decide)) rfl
           have e4 := V.at (hL 4 (by decide)) rfl
           have e5 := V.at (hL 5 (by decide)) rfl
           have e6 := V.at (hL 6 (by decide)) rfl
           clear hL V
           replace B0 := B0.zw hY
           replace hb := hb.trans (hY.mono hb.size)
           clear hY
           simp only [Exit.then, e0, e1, e2, e3, e4, e5, e6]
           clear e0 e1 e2 e3 e4 e5 e6
           go_wp2_with fail
           go_ret
           exact ⟨by rw [HV.out]; rfl, hb⟩
       · rw [hd] at HDG
         clear hd
         go_upto_region 7 with (first | (refine zla (.tmp 3) B0 Try.underlying23 Try.size23 ?_) | (go_at_call 92; refine (HDG.out _).mono ?_; rintro e W3 ⟨rfl, hW3⟩; replace B0 := B0.zw hW3; replace hb := (hb).trans (hW3.mono (hb).size)))
         refine zq Try.mixed (by kernel_rfl) (by kernel_rfl) (fun v => by (simp only [frL, Act.put, pA, pB, pC, Nat.reduceAdd, Nat.zero_add]; exact rfl))
          (fun L v W4 => Below W3.heap.size W3 W4 ∧ VF L v [some (.int .i64 (n : Int)), some (.int .i64 (n : Int)), some (.agg (zb 64 (D))), some (.agg (zb 64 (dvN n D))), some (.agg (zb 64 (D))), some (.bool true), some (.bool true)]) ?_ ?_ ?_
         · intro v hv0
           exact ⟨(Below.refl _ W3).drew, VF.start⟩
         · refine (.cons rfl ?_ (.cons rfl ?_ (.cons rfl ?_ (.cons rfl ?_ (.cons rfl ?_ (.cons rfl ?_ (.cons rfl ?_ (.nil _))))))))
           all_goals intro L v W4 hd hn ⟨hY, V⟩ K hK
           · go_wp2_with fail
             exact hK _ (.int .i64 (n : Int)) _ (by simp only [Act.put, pA, pB, pC ]) ⟨hY, V.step 0 rfl⟩
           · go_wp2_with fail
             exact hK _ (.int .i64 (n : Int)) _ (by simp only [Act.put, pA, pB, pC ]) ⟨hY, V.step 1 rfl⟩
           · refine zlc (B0.zw hY) Try.underlying23 Try.size23 ?_
             exact hK _ _ _ rfl ⟨hY, V.step 2 rfl⟩
           · have e1 := V.at (zdq hd 1 rfl) rfl
             have e2 := V.at (zdq hd 2 rfl) rfl
             go_wp2_with (go_at_call 87; refine (HDV.out _).mono ?_; rintro e wy ⟨rfl, hy⟩)
             exact hK _ (.agg (zb 64 (dvN n D))) _ (by simp only [Act.put, pA, pB, pC, e1, e2]) ⟨hY.trans (hy.mono hY.size), V.step 3 rfl⟩
           · refine zlc (B0.zw hY) Try.underlying23 Try.size23 ?_
             exact hK _ _ _ rfl ⟨hY, V.step 4 rfl⟩
           · have e0 := V.at (zdq hd 0 rfl) rfl
             have e3 := V.at (zdq hd 3 rfl) rfl
             have e4 := V.at (zdq hd 4 rfl) rfl
             go_wp2_with (go_at_call 119; refine (HUN.out _).mono ?_; rintro e wy ⟨rfl, hy⟩)
             exact hK _ (.bool true) _ (by simp only [Act.put, pA, pB, pC, e0, e3, e4]) ⟨hY.trans (hy.mono hY.size), V.step 5 rfl⟩
           · have e5 := V.at (zdq hd 5 rfl) rfl
             go_wp2_with fail
             exact hK _ (.bool true) _ (by simp only [Act.put, pA, pB, pC, e5]) ⟨hY, V.step 6 rfl⟩
         · intro L v W4 hL ⟨hY, V⟩
           have e0 := V.at (hL 0 (by decide)) rfl
           have e1 := V.at (hL 1 (by decide)) rfl
           have e2 := V.at (hL 2 (by decide)) rfl
           have e3 := V.at (hL 3 (by decide)) rfl
           have e4 := V.at (hL 4 (by decide)) rfl
           have e5 := V.at (hL 5 (by decide)) rfl
           have e6 := V.at (hL 6 (by decide)) rfl
           clear hL V
           replace B0 := B0.zw hY
           replace hb := hb.trans (hY.mono hb.size)
           clear hY
           simp only [Exit.then, e0, e1, e2, e3, e4, e5, e6]
           clear e0 e1 e2 e3 e4 e5 e6
           go_wp2_with fail
           go_ret
           exact ⟨by rw [HV.out]; rfl, hb⟩
       · rw [hd] at HDG
         clear hd
         go_upto_region 7 with (first | (refine zla (.tmp 3) B0 Try.underlying23 Try.size23 ?_) | (go_at_call 92; refine (HDG.out _).mono ?_; rintro e W3 ⟨rfl, hW3⟩; replace B0 := B0.zw hW3; replace hb := (hb).trans (hW3.mono (hb).size)))
         refine zq Try.mixed (by kernel_rfl) (by kernel_rfl) (fun v => by (simp only [frL, Act.put, pA, pB, pC, Nat.reduceAdd, Nat.zero_add]; exact rfl))
          (fun L v W4 => Below W3.heap.size W3 W4 ∧ VF L v [some (.int .i64 (n : Int)), some (.int .i64 (n : Int)), some (.agg (zb 64 (D))), some (.agg (zb 64 (dvN n D))), some (.agg (zb 64 (D))), some (.bool true), some (.bool true)]) ?_ ?_ ?_
         · intro v hv0
           exact ⟨(Below.refl _ W3).drew, VF.start⟩
         · refine (.cons rfl ?_ (.cons rfl ?_ (.cons rfl ?_ (.cons rfl ?_ (.cons rfl ?_ (.cons rfl ?_ (.cons rfl ?_ (.nil _))))))))
           all_goals intro L v W4 hd hn ⟨hY, V⟩ K hK
           · go_wp2_with fail
             exact hK _ (.int .i64 (n : Int)) _ (by simp only [Act.put, pA, pB, pC ]) ⟨hY, V.step 0 rfl⟩
           · go_wp2_with fail
             exact hK _ (.int .i64 (n : Int)) _ (by simp only [Act.put, pA, pB, pC ]) ⟨hY, V.step 1 rfl⟩
           · refine zlc (B0.zw hY) Try.underlying23 Try.size23 ?_
             exact hK _ _ _ rfl ⟨hY, V.step 2 rfl⟩
           · have e1 := V.at (zdq hd 1 rfl) rfl
             have e2 := V.at (zdq hd 2 rfl) rfl
             go_wp2_with (go_at_call 87; refine (HDV.out _).mono ?_; rintro e wy ⟨rfl, hy⟩)
             exact hK _ (.agg (zb 64 (dvN n D))) _ (by simp only [Act.put, pA, pB, pC, e1, e2]) ⟨hY.trans (hy.mono hY.size), V.step 3 rfl⟩
           · refine zlc (B0.zw hY) Try.underlying23 Try.size23 ?_
             exact hK _ _ _ rfl ⟨hY, V.step 4 rfl⟩
           · have e0 := V.at (zdq hd 0 rfl) rfl
             have e3 := V.at (zdq hd 3 rfl) rfl
             have e4 := V.at (zdq hd 4 rfl) rfl
             go_wp2_with (go_at_call 119; refine (HUN.out _).mono ?_; rintro e wy ⟨rfl, hy⟩)
             exact hK _ (.bool true) _ (by simp only [Act.put, pA, pB, pC, e0, e3, e4]) ⟨hY.trans (hy.mono hY.size), V.step 5 rfl⟩
           · have e5 := V.at (zdq hd 5 rfl) rfl
             go_wp2_with fail
             exact hK _ (.bool true) _ (by simp only [Act.put, pA, pB, pC, e5]) ⟨hY, V.step 6 rfl⟩
         · intro L v W4 hL ⟨hY, V⟩
           have e0 := V.at (hL 0 (by decide)) rfl
           have e1 := V.at (hL 1 (by decide)) rfl
           have e2 := V.at (hL 2 (by decide)) rfl
           have e3 := V.at (hL 3 (by decide)) rfl
           have e4 := V.at (hL 4 (by decide)) rfl
           have e5 := V.at (hL 5 (by decide)) rfl
           have e6 := V.at (hL 6 (by decide)) rfl
           clear hL V
           replace B0 := B0.zw hY
           replace hb := hb.trans (hY.mono hb.size)
           clear hY
           simp only [Exit.then, e0, e1, e2, e3, e4, e5, e6]
           clear e0 e1 e2 e3 e4 e5 e6
           go_wp2_with fail
           go_ret
           exact ⟨by rw [HV.out]; rfl, hb⟩
      | false =>
       rw [hz] at HV HUN
       rcases hd with hd | hd | hd
       · rw [hd] at HDG
         clear hd
         go_upto_region 7 with (first | (refine zla (.tmp 3) B0 Try.underlying23 Try.size23 ?_) | (go_at_call 92; refine (HDG.out _).mono ?_; rintro e W3 ⟨rfl, hW3⟩; replace B0 := B0.zw hW3; replace hb := (hb).trans (hW3.mono (hb).size)))
         refine zq Try.mixed (by kernel_rfl) (by kernel_rfl) (fun v => by (simp only [frL, Act.put, pA, pB, pC, Nat.reduceAdd, Nat.zero_add]; exact rfl))
          (fun L v W4 => Below W3.heap.size W3 W4 ∧ VF L v [some (.int .i64 (n : Int)), some (.int .i64 (n : Int)), some (.agg (zb 64 (D))), some (.agg (zb 64 (dvN n D))), some (.agg (zb 64 (D))), some (.bool false), some (.bool false)]) ?_ ?_ ?_
         · intro v hv0
           exact ⟨(Below.refl _ W3).drew, VF.start⟩
         · refine (.cons rfl ?_ (.cons rfl ?_ (.cons rfl ?_ (.cons rfl ?_ (.cons rfl ?_ (.cons rfl ?_ (.cons rfl ?_ (.nil _))))))))
           all_goals intro L v W4 hd hn ⟨hY, V⟩ K hK
           · go_wp2_with fail
             exact hK _ (.int .i64 (n : Int)) _ (by simp only [Act.put, pA, pB, pC ]) ⟨hY, V.step 0 rfl⟩
           · go_wp2_with fail
             exact hK _ (.int .i64 (n : Int)) _ (by simp only [Act.put, pA, pB, pC ]) ⟨hY, V.step 1 rfl⟩
           · refine zlc (B0.zw hY) Try.underlying23 Try.size23 ?_
             exact hK _ _ _ rfl ⟨hY, V.step 2 rfl⟩
           · have e1 := V.at (zdq hd 1 rfl) rfl
             have e2 := V.at (zdq hd 2 rfl) rfl
             go_wp2_with (go_at_call 87; refine (HDV.out _).mono ?_; rintro e wy ⟨rfl, hy⟩)
             exact hK _ (.agg (zb 64 (dvN n D))) _ (by simp only [Act.put, pA, pB, pC, e1, e2]) ⟨hY.trans (hy.mono hY.size), V.step 3 rfl⟩
           · refine zlc (B0.zw hY) Try.underlying23 Try.size23 ?_
             exact hK _ _ _ rfl ⟨hY, V.step 4 rfl⟩
           · have e0 := V.at (zdq hd 0 rfl) rfl
             have e3 := V.at (zdq hd 3 rfl) rfl
             have e4 := V.at (zdq hd 4 rfl) rfl
             go_wp2_with (go_at_call 119; refine (HUN.out _).mono ?_; rintro e wy ⟨rfl, hy⟩)
             exact hK _ (.bool false) _ (by simp only [Act.put, pA, pB, pC, e0, e3, e4]) ⟨hY.trans (hy.mono hY.size), V.step 5 rfl⟩
           · have e5 := V.at (zdq hd 5 rfl) rfl
             go_wp2_with fail
             exact hK _ (.bool false) _ (by simp only [Act.put, pA, pB, pC, e5]) ⟨hY, V.step 6 rfl⟩
         · intro L v W4 hL ⟨hY, V⟩
           have e0 := V.at (hL 0 (by decide)) rfl
           have e1 := V.at (hL 1 (by decide)) rfl
           have e2 := V.at (hL 2 (by decide)) rfl
           have e3 := V.at (hL 3 (by decide)) rfl
           have e4 := V.at (hL 4 (by decide)) rfl
           have e5 := V.at (hL 5 (by decide)) rfl
           have e6 := V.at (hL 6 (by decide)) rfl
           clear hL V
           replace B0 := B0.zw hY
           replace hb := hb.trans (hY.mono hb.size)
           clear hY
           simp only [Exit.then, e0, e1, e2, e3, e4, e5, e6]
           clear e0 e1 e2 e3 e4 e5 e6
           go_wp2_with fail
           go_ret
           exact ⟨by rw [HV.out]; rfl, hb⟩
       · rw [hd] at HDG
         clear hd
         go_upto_region 7 with (first | (refine zla (.tmp 3) B0 Try.underlying23 Try.size23 ?_) | (go_at_call 92; refine (HDG.out _).mono ?_; rintro e W3 ⟨rfl, hW3⟩; replace B0 := B0.zw hW3; replace hb := (hb).trans (hW3.mono (hb).size)))
         refine zq Try.mixed (by kernel_rfl) (by kernel_rfl) (fun v => by (simp only [frL, Act.put, pA, pB, pC, Nat.reduceAdd, Nat.zero_add]; exact rfl))
          (fun L v W4 => Below W3.heap.size W3 W4 ∧ VF L v [some (.int .i64 (n : Int)), some (.int .i64 (n : Int)), some (.agg (zb 64 (D))), some (.agg (zb 64 (dvN n D))), some (.agg (zb 64 (D))), some (.bool false), some (.bool false)]) ?_ ?_ ?_
         · intro v hv0
           exact ⟨(Below.refl _ W3).drew, VF.start⟩
         · refine (.cons rfl ?_ (.cons rfl ?_ (.cons rfl ?_ (.cons rfl ?_ (.cons rfl ?_ (.cons rfl ?_ (.cons rfl ?_ (.nil _))))))))
           all_goals intro L v W4 hd hn ⟨hY, V⟩ K hK
           · go_wp2_with fail
             exact hK _ (.int .i64 (n : Int)) _ (by simp only [Act.put, pA, pB, pC ]) ⟨hY, V.step 0 rfl⟩
           · go_wp2_with fail
             exact hK _ (.int .i64 (n : Int)) _ (by simp only [Act.put, pA, pB, pC ]) ⟨hY, V.step 1 rfl⟩
           · refine zlc (B0.zw hY) Try.underlying23 Try.size23 ?_
             exact hK _ _ _ rfl ⟨hY, V.step 2 rfl⟩
           · have e1 := V.at (zdq hd 1 rfl) rfl
             have e2 := V.at (zdq hd 2 rfl) rfl
             go_wp2_with (go_at_call 87; refine (HDV.out _).mono ?_; rintro e wy ⟨rfl, hy⟩)
             exact hK _ (.agg (zb 64 (dvN n D))) _ (by simp only [Act.put, pA, pB, pC, e1, e2]) ⟨hY.trans (hy.mono hY.size), V.step 3 rfl⟩
           · refine zlc (B0.zw hY) Try.underlying23 Try.size23 ?_
             exact hK _ _ _ rfl ⟨hY, V.step 4 rfl⟩
           · have e0 := V.at (zdq hd 0 rfl) rfl
             have e3 := V.at (zdq hd 3 rfl) rfl
             have e4 := V.at (zdq hd 4 rfl) rfl
             go_wp2_with (go_at_call 119; refine (HUN.out _).mono ?_; rintro e wy ⟨rfl, hy⟩)
             exact hK _ (.bool false) _ (by simp only [Act.put, pA, pB, pC, e0, e3, e4]) ⟨hY.trans (hy.mono hY.size), V.step 5 rfl⟩
           · have e5 := V.at (zdq hd 5 rfl) rfl
             go_wp2_with fail
             exact hK _ (.bool false) _ (by simp only [Act.put, pA, pB, pC, e5]) ⟨hY, V.step 6 rfl⟩
         · intro L v W4 hL ⟨hY, V⟩
           have e0 := V.at (hL 0 (by decide)) rfl
           have e1 := V.at (hL 1 (by decide)) rfl
           have e2 := V.at (hL 2 (by decide)) rfl
           have e3 := V.at (hL 3 (by decide)) rfl
           have e4 := V.at (hL 4 (by decide)) rfl
           have e5 := V.at (hL 5 (by decide)) rfl
           have e6 := V.at (hL 6 (by decide)) rfl
           clear hL V
           replace B0 := B0.zw hY
           replace hb := hb.trans (hY.mono hb.size)
           clear hY
           simp only [Exit.then, e0, e1, e2, e3, e4, e5, e6]
           clear e0 e1 e2 e3 e4 e5 e6
           go_wp2_with fail
           go_ret
           exact ⟨by rw [HV.out]; rfl, hb⟩
       · rw [hd] at HDG
         clear hd
         go_upto_region 7 with (first | (refine zla (.tmp 3) B0 Try.underlying23 Try.size23 ?_) | (go_at_call 92; refine (HDG.out _).mono ?_; rintro e W3 ⟨rfl, hW3⟩; replace B0 := B0.zw hW3; replace hb := (hb).trans (hW3.mono (hb).size)))
         refine zq Try.mixed (by kernel_rfl) (by kernel_rfl) (fun v => by (simp only [frL, Act.put, pA, pB, pC, Nat.reduceAdd, Nat.zero_add]; exact rfl))
          (fun L v W4 => Below W3.heap.size W3 W4 ∧ VF L v [some (.int .i64 (n : Int)), some (.int .i64 (n : Int)), some (.agg (zb 64 (D))), some (.agg (zb 64 (dvN n D))), some (.agg (zb 64 (D))), some (.bool false), some (.bool false)]) ?_ ?_ ?_
         · intro v hv0
           exact ⟨(Below.refl _ W3).drew, VF.start⟩
         · refine (.cons rfl ?_ (.cons rfl ?_ (.cons rfl ?_ (.cons rfl ?_ (.cons rfl ?_ (.cons rfl ?_ (.cons rfl ?_ (.nil _))))))))
           all_goals intro L v W4 hd hn ⟨hY, V⟩ K hK
           · go_wp2_with fail
             exact hK _ (.int .i64 (n : Int)) _ (by simp only [Act.put, pA, pB, pC ]) ⟨hY, V.step 0 rfl⟩
           · go_wp2_with fail
             exact hK _ (.int .i64 (n : Int)) _ (by simp only [Act.put, pA, pB, pC ]) ⟨hY, V.step 1 rfl⟩
           · refine zlc (B0.zw hY) Try.underlying23 Try.size23 ?_
             exact hK _ _ _ rfl ⟨hY, V.step 2 rfl⟩
           · have e1 := V.at (zdq hd 1 rfl) rfl
             have e2 := V.at (zdq hd 2 rfl) rfl
             go_wp2_with (go_at_call 87; refine (HDV.out _).mono ?_; rintro e wy ⟨rfl, hy⟩)
             exact hK _ (.agg (zb 64 (dvN n D))) _ (by simp only [Act.put, pA, pB, pC, e1, e2]) ⟨hY.trans (hy.mono hY.size), V.step 3 rfl⟩
           · refine zlc (B0.zw hY) Try.underlying23 Try.size23 ?_
             exact hK _ _ _ rfl ⟨hY, V.step 4 rfl⟩
           · have e0 := V.at (zdq hd 0 rfl) rfl
             have e3 := V.at (zdq hd 3 rfl) rfl
             have e4 := V.at (zdq hd 4 rfl) rfl
             go_wp2_with (go_at_call 119; refine (HUN.out _).mono ?_; rintro e wy ⟨rfl, hy⟩)
             exact hK _ (.bool false) _ (by simp only [Act.put, pA, pB, pC, e0, e3, e4]) ⟨hY.trans (hy.mono hY.size), V.step 5 rfl⟩
           · have e5 := V.at (zdq hd 5 rfl) rfl
             go_wp2_with fail
             exact hK _ (.bool false) _ (by simp only [Act.put, pA, pB, pC, e5]) ⟨hY, V.step 6 rfl⟩
         · intro L v W4 hL ⟨hY, V⟩
           have e0 := V.at (hL 0 (by decide)) rfl
           have e1 := V.at (hL 1 (by decide)) rfl
           have e2 := V.at (hL 2 (by decide)) rfl
           have e3 := V.at (hL 3 (by decide)) rfl
           have e4 := V.at (hL 4 (by decide)) rfl
           have e5 := V.at (hL 5 (by decide)) rfl
           have e6 := V.at (hL 6 (by decide)) rfl
           clear hL V
           replace B0 := B0.zw hY
           replace hb := hb.trans (hY.mono hb.size)
           clear hY
           simp only [Exit.then, e0, e1, e2, e3, e4, e5, e6]
           clear e0 e1 e2 e3 e4 e5 e6
           go_wp2_with fail
           go_ret
           exact ⟨by rw [HV.out]; rfl, hb⟩
    · have HV := Lib.hid (dcB_3 (p := (n : Int)) hd)
      have d1 : ¬ deg D = 1 := fun h => hd (.inl h)
      have d3 : ¬ deg D = 3 := fun h => hd (.inr (.inl h))
      have d5 : ¬ deg D = 5 := fun h => hd (.inr (.inr h))
      have b1 : (deg D == 1) = false := beq_eq_false_iff_ne.2 d1
      have b3 : (deg D == 3) = false := beq_eq_false_iff_ne.2 d3
      have b5 : (deg D == 5) = false := beq_eq_false_iff_ne.2 d5
      have c1 : (deg D != 1) = true := bne_iff_ne.2 d1
      have c3 : (deg D != 3) = true := bne_iff_ne.2 d3
      have c5 : (deg D != 5) = true := bne_iff_ne.2 d5
      clear hd
      go_upto_region 8 with (first | (refine zla (.tmp 3) B0 Try.underlying23 Try.size23 ?_) | (go_at_call 92; refine (HDG.out _).mono ?_; rintro e W3 ⟨rfl, hW3⟩; replace B0 := B0.zw hW3; replace hb := (hb).trans (hW3.mono (hb).size)))
      go_wp2_with fail
      go_ret
      exact ⟨by rw [HV.out]; rfl, hb⟩
set_option maxRecDepth 100000 in
set_option maxHeartbeats 3200000 in
theorem l07Is_any (p : Int) (D : Nat → Nat) (hD : byte D) (w : World) :
 Calls Try.prog 124 #[.int .i64 p, .agg (zb 64 D)] w fun e w' => e = .returned (.bool (dcB p D)) ∧ Below w.heap.size w w' := by
 have HOK := Lib.hid (fun W => l01Is_any p D hD W)
 go_enter Try.func124, Try.ntmps124
 go_upto_region 1 with (fail)
 obtain ⟨W1, hwo⟩ : ∃ v : World, v = (w.alloc (.cells (zb 64 (D)) 23)) := ⟨_, rfl⟩
 have B0 : Blk W1 (w.heap.size) 64 23 (D) := by subst hwo; have := (Blk.new w 64 23 (D)); simpa using this
 have hb : Below w.heap.size w W1 := by subst hwo; exact ((Below.refl _ _).alloc (Nat.le_refl _) _)
 rw [← hwo]
 clear hwo
 by_cases hp2 : p = 2
 · subst hp2
   have HV := Lib.hid (dcB_2 (p := 2) (D := D) rfl)
   cases ho : okA (2 : Int) D with
   | false =>
    go_upto_region 2 with (first | (refine zla (.tmp 3) B0 Try.underlying23 Try.size23 ?_) | (go_at_call 144; refine (HOK.out _).mono ?_; rintro e W2 ⟨rfl, hW2⟩; replace B0 := B0.zw hW2; replace hb := (hb).trans (hW2.mono (hb).size); rw [ho]))
    go_wp2_with fail
    go_ret
    exact ⟨by rw [HV.out]; rfl, hb⟩
   | true =>
    go_upto_region 2 with (first | (refine zla (.tmp 3) B0 Try.underlying23 Try.size23 ?_) | (go_at_call 144; refine (HOK.out _).mono ?_; rintro e W2 ⟨rfl, hW2⟩; replace B0 := B0.zw hW2; replace hb := (hb).trans (hW2.mono (hb).size); rw [ho]))
    go_wp2_with fail
    go_ret
    exact ⟨by rw [HV.out]; rfl, hb⟩
 · have hne : (p == 2) = false := beq_eq_false_iff_ne.2 hp2
   cases ho : okA p D with
   | false =>
    have HV := Lib.hid (dcB_1 ho)
    go_upto_region 2 with (first | (refine zla (.tmp 3) B0 Try.underlying23 Try.size23 ?_) | (go_at_call 144; refine (HOK.out _).mono ?_; rintro e W2 ⟨rfl, hW2⟩; replace B0 := B0.zw hW2; replace hb := (hb).trans (hW2.mono (hb).size); rw [ho]))
    go_wp2_with fail
    go_ret
    exact ⟨by rw [HV.out]; rfl, hb⟩
   | true =>
    obtain ⟨n, rfl, hpr, lD⟩ := okA_nat ho
    go_upto_region 3 with (first | (refine zla (.tmp 3) B0 Try.underlying23 Try.size23 ?_) | (go_at_call 144; refine (HOK.out _).mono ?_; rintro e W2 ⟨rfl, hW2⟩; replace B0 := B0.zw hW2; replace hb := (hb).trans (hW2.mono (hb).size); rw [ho]))
    clear hne
    have HDG := Lib.hid (fun W => l01Deg_any D W)
    by_cases hd : deg D = 1 ∨ deg D = 3 ∨ deg D = 5
    · obtain ⟨q, hq⟩ : ∃ q : Int, q = deg D := ⟨_, rfl⟩
      have HV := Lib.hid (dcB_v ho hp2 hd)
      have h0 : 0 ≤ deg D := by omega
      have HDV := Lib.hid (show ∀ W, Calls Try.prog 25 #[.int .i64 (n : Int), .agg (zb 64 D)] W fun e w' => e = .returned (.tuple #[.agg (zb 64 (dvN n D)), .int .i64 0]) ∧ Below W.heap.size W w' from fun W => by
       have := spec_DerivativeOf_any (n : Int) D hD W
       rw [show dvV (n : Int) D = (dvN n D, 0) from if_pos (codeL_ok (okA_p ho) (fun j f hf => by
        match j, hf with
        | 0, hf => cases hf; exact ho))] at this
       exact this)
      have HGC := Lib.hid (fun W => l01Gcd_any n D (dvN n D) W hpr lD (fun k _ => dvN_lt (by omega) k) (fun h => by omega))
      have HDQ := Lib.hid (fun W => l01Deg_any (bzD n D (dvN n D)) W)
      obtain ⟨QQ, hQQ⟩ : ∃ QQ, QQ = deg (bzD n D (dvN n D)) := ⟨_, rfl⟩
      rw [← hQQ] at HV HDQ
      clear hQQ h0 hpr lD hD hp2 ho hq
      cases hz : decide (QQ = 0) with
      | true =>
       rw [hz] at HV
       simp only [decide_eq_true_eq, decide_eq_false_iff_not] at hz
       subst hz
       rcases hd with hd | hd | hd
       · rw [hd] at HDG
         clear hd
         go_upto_region 6 with (first | (refine zla (.tmp 3) B0 Try.underlying23 Try.size23 ?_) | (go_at_call 88; refine (HDG.out _).mono ?_; rintro e W3 ⟨rfl, hW3⟩; replace B0 := B0.zw hW3; replace hb := (hb).trans (hW3.mono (hb).size)))
         have lt_B0 := B0.lt
         go_upto_region 7 with (first | rw [← z64] | (refine zla (.tmp 3) B0 Try.underlying23 Try.size23 ?_) | (go_at_call 25; refine (HDV.out _).mono ?_; rintro e W4 ⟨rfl, hW4⟩; replace B0 := B0.zw hW4; replace hb := (hb).trans (hW4.mono (hb).size)) | (refine wpList_store_blk rfl 23 (.tmp 6) (.tmp 32) rfl _ 64 (dvN n D) rfl rfl 23 _ ((Blk.new W4 64 23 (fun _ => 0))) Try.size23 ?_; try simp only [Act.put]; go_upto_region 7 with (fail)))
         have lt_B0 := B0.lt
         have lhb := hb.size
         obtain ⟨W5, hwo, hzQ⟩ : ∃ v : World, v = ((W4.alloc (.cells (zb 64 (fun _ => 0)) 23)).setRow (W4.heap.size) (zb 64 (dvN n D))) ∧ Blk v (w.heap.size) 64 23 (D) ∧ Blk v (W4.heap.size) 64 23 (dvN n D) ∧ Below w.heap.size w v := ⟨_, rfl, ((B0.alloc (.cells (zb 64 (fun _ => 0)) 23)).rowOther (by omega)), ((Blk.new W4 64 23 (fun _ => 0)).row (dvN n D)), (zr (hb.alloc (by have := hb.size; simp; omega) (.cells (zb 64 (fun _ => 0)) 23)) (by omega) _)⟩
         rw [← hwo]
         clear hwo B0 hb
         obtain ⟨B0, B1, hb⟩ := hzQ
         obtain ⟨N1, hNN⟩ : ∃ n : Nat, n = W4.heap.size := ⟨_, rfl⟩
         rw [← hNN] at lt_B0 lhb B1 ⊢
         clear hNN
         have zN1_0 := lt_B0
         have zN1 := lhb
         clear lt_B0 lhb
         try simp only [Act.put, pA, pB, pC]
         go_wp2_with (first | (refine zla (.tmp 3) B0 Try.underlying23 Try.size23 ?_) | (refine zla (.tmp 6) B1 Try.underlying23 Try.size23 ?_) | (go_at_call 152; refine (HGC.out _).mono ?_; rintro e W6 ⟨rfl, hW6⟩; replace B0 := B0.zw hW6; replace B1 := B1.zw hW6; replace hb := (hb).trans (hW6.mono (hb).size)) | (go_at_call 88; refine (HDQ.out _).mono ?_; rintro e W7 ⟨rfl, hW7⟩; replace B0 := B0.zw hW7; replace B1 := B1.zw hW7; replace hb := (hb).trans (hW7.mono (hb).size)))
         go_ret
         exact ⟨by rw [HV.out]; rfl, hb⟩
       · rw [hd] at HDG
         clear hd
         go_upto_region 6 with (first | (refine zla (.tmp 3) B0 Try.underlying23 Try.size23 ?_) | (go_at_call 88; refine (HDG.out _).mono ?_; rintro e W3 ⟨rfl, hW3⟩; replace B0 := B0.zw hW3; replace hb := (hb).trans (hW3.mono (hb).size)))
         have lt_B0 := B0.lt
         go_upto_region 7 with (first | rw [← z64] | (refine zla (.tmp 3) B0 Try.underlying23 Try.size23 ?_) | (go_at_call 25; refine (HDV.out _).mono ?_; rintro e W4 ⟨rfl, hW4⟩; replace B0 := B0.zw hW4; replace hb := (hb).trans (hW4.mono (hb).size)) | (refine wpList_store_blk rfl 23 (.tmp 6) (.tmp 32) rfl _ 64 (dvN n D) rfl rfl 23 _ ((Blk.new W4 64 23 (fun _ => 0))) Try.size23 ?_; try simp only [Act.put]; go_upto_region 7 with (fail)))
         have lt_B0 := B0.lt
         have lhb := hb.size
         obtain ⟨W5, hwo, hzQ⟩ : ∃ v : World, v = ((W4.alloc (.cells (zb 64 (fun _ => 0)) 23)).setRow (W4.heap.size) (zb 64 (dvN n D))) ∧ Blk v (w.heap.size) 64 23 (D) ∧ Blk v (W4.heap.size) 64 23 (dvN n D) ∧ Below w.heap.size w v := ⟨_, rfl, ((B0.alloc (.cells (zb 64 (fun _ => 0)) 23)).rowOther (by omega)), ((Blk.new W4 64 23 (fun _ => 0)).row (dvN n D)), (zr (hb.alloc (by have := hb.size; simp; omega) (.cells (zb 64 (fun _ => 0)) 23)) (by omega) _)⟩
         rw [← hwo]
         clear hwo B0 hb
         obtain ⟨B0, B1, hb⟩ := hzQ
         obtain ⟨N1, hNN⟩ : ∃ n : Nat, n = W4.heap.size := ⟨_, rfl⟩
         rw [← hNN] at lt_B0 lhb B1 ⊢
         clear hNN
         have zN1_0 := lt_B0
         have zN1 := lhb
         clear lt_B0 lhb
         try simp only [Act.put, pA, pB, pC]
         go_wp2_with (first | (refine zla (.tmp 3) B0 Try.underlying23 Try.size23 ?_) | (refine zla (.tmp 6) B1 Try.underlying23 Try.size23 ?_) | (go_at_call 152; refine (HGC.out _).mono ?_; rintro e W6 ⟨rfl, hW6⟩; replace B0 := B0.zw hW6; replace B1 := B1.zw hW6; replace hb := (hb).trans (hW6.mono (hb).size)) | (go_at_call 88; refine (HDQ.out _).mono ?_; rintro e W7 ⟨rfl, hW7⟩; replace B0 := B0.zw hW7; replace B1 := B1.zw hW7; replace hb := (hb).trans (hW7.mono (hb).size)))
         go_ret
         exact ⟨by rw [HV.out]; rfl, hb⟩
       · rw [hd] at HDG
         clear hd
         go_upto_region 6 with (first | (refine zla (.tmp 3) B0 Try.underlying23 Try.size23 ?_) | (go_at_call 88; refine (HDG.out _).mono ?_; rintro e W3 ⟨rfl, hW3⟩; replace B0 := B0.zw hW3; replace hb := (hb).trans (hW3.mono (hb).size)))
         have lt_B0 := B0.lt
         go_upto_region 7 with (first | rw [← z64] | (refine zla (.tmp 3) B0 Try.underlying23 Try.size23 ?_) | (go_at_call 25; refine (HDV.out _).mono ?_; rintro e W4 ⟨rfl, hW4⟩; replace B0 := B0.zw hW4; replace hb := (hb).trans (hW4.mono (hb).size)) | (refine wpList_store_blk rfl 23 (.tmp 6) (.tmp 32) rfl _ 64 (dvN n D) rfl rfl 23 _ ((Blk.new W4 64 23 (fun _ => 0))) Try.size23 ?_; try simp only [Act.put]; go_upto_region 7 with (fail)))
         have lt_B0 := B0.lt
         have lhb := hb.size
         obtain ⟨W5, hwo, hzQ⟩ : ∃ v : World, v = ((W4.alloc (.cells (zb 64 (fun _ => 0)) 23)).setRow (W4.heap.size) (zb 64 (dvN n D))) ∧ Blk v (w.heap.size) 64 23 (D) ∧ Blk v (W4.heap.size) 64 23 (dvN n D) ∧ Below w.heap.size w v := ⟨_, rfl, ((B0.alloc (.cells (zb 64 (fun _ => 0)) 23)).rowOther (by omega)), ((Blk.new W4 64 23 (fun _ => 0)).row (dvN n D)), (zr (hb.alloc (by have := hb.size; simp; omega) (.cells (zb 64 (fun _ => 0)) 23)) (by omega) _)⟩
         rw [← hwo]
         clear hwo B0 hb
         obtain ⟨B0, B1, hb⟩ := hzQ
         obtain ⟨N1, hNN⟩ : ∃ n : Nat, n = W4.heap.size := ⟨_, rfl⟩
         rw [← hNN] at lt_B0 lhb B1 ⊢
         clear hNN
         have zN1_0 := lt_B0
         have zN1 := lhb
         clear lt_B0 lhb
         try simp only [Act.put, pA, pB, pC]
         go_wp2_with (first | (refine zla (.tmp 3) B0 Try.underlying23 Try.size23 ?_) | (refine zla (.tmp 6) B1 Try.underlying23 Try.size23 ?_) | (go_at_call 152; refine (HGC.out _).mono ?_; rintro e W6 ⟨rfl, hW6⟩; replace B0 := B0.zw hW6; replace B1 := B1.zw hW6; replace hb := (hb).trans (hW6.mono (hb).size)) | (go_at_call 88; refine (HDQ.out _).mono ?_; rintro e W7 ⟨rfl, hW7⟩; replace B0 := B0.zw hW7; replace B1 := B1.zw hW7; replace hb := (hb).trans (hW7.mono (hb).size)))
         go_ret
         exact ⟨by rw [HV.out]; rfl, hb⟩
      | false =>
       rw [hz] at HV
       simp only [decide_eq_true_eq, decide_eq_false_iff_not] at hz
       rcases hd with hd | hd | hd
       · rw [hd] at HDG
         clear hd
         go_upto_region 6 with (first | (refine zla (.tmp 3) B0 Try.underlying23 Try.size23 ?_) | (go_at_call 88; refine (HDG.out _).mono ?_; rintro e W3 ⟨rfl, hW3⟩; replace B0 := B0.zw hW3; replace hb := (hb).trans (hW3.mono (hb).size)))
         have lt_B0 := B0.lt
         go_upto_region 7 with (first | rw [← z64] | (refine zla (.tmp 3) B0 Try.underlying23 Try.size23 ?_) | (go_at_call 25; refine (HDV.out _).mono ?_; rintro e W4 ⟨rfl, hW4⟩; replace B0 := B0.zw hW4; replace hb := (hb).trans (hW4.mono (hb).size)) | (refine wpList_store_blk rfl 23 (.tmp 6) (.tmp 32) rfl _ 64 (dvN n D) rfl rfl 23 _ ((Blk.new W4 64 23 (fun _ => 0))) Try.size23 ?_; try simp only [Act.put]; go_upto_region 7 with (fail)))
         have lt_B0 := B0.lt
         have lhb := hb.size
         obtain ⟨W5, hwo, hzQ⟩ : ∃ v : World, v = ((W4.alloc (.cells (zb 64 (fun _ => 0)) 23)).setRow (W4.heap.size) (zb 64 (dvN n D))) ∧ Blk v (w.heap.size) 64 23 (D) ∧ Blk v (W4.heap.size) 64 23 (dvN n D) ∧ Below w.heap.size w v := ⟨_, rfl, ((B0.alloc (.cells (zb 64 (fun _ => 0)) 23)).rowOther (by omega)), ((Blk.new W4 64 23 (fun _ => 0)).row (dvN n D)), (zr (hb.alloc (by have := hb.size; simp; omega) (.cells (zb 64 (fun _ => 0)) 23)) (by omega) _)⟩
         rw [← hwo]
         clear hwo B0 hb
         obtain ⟨B0, B1, hb⟩ := hzQ
         obtain ⟨N1, hNN⟩ : ∃ n : Nat, n = W4.heap.size := ⟨_, rfl⟩
         rw [← hNN] at lt_B0 lhb B1 ⊢
         clear hNN
         have zN1_0 := lt_B0
         have zN1 := lhb
         clear lt_B0 lhb
         try simp only [Act.put, pA, pB, pC]
         go_wp2_with (first | (refine zla (.tmp 3) B0 Try.underlying23 Try.size23 ?_) | (refine zla (.tmp 6) B1 Try.underlying23 Try.size23 ?_) | (go_at_call 152; refine (HGC.out _).mono ?_; rintro e W6 ⟨rfl, hW6⟩; replace B0 := B0.zw hW6; replace B1 := B1.zw hW6; replace hb := (hb).trans (hW6.mono (hb).size)) | (go_at_call 88; refine (HDQ.out _).mono ?_; rintro e W7 ⟨rfl, hW7⟩; replace B0 := B0.zw hW7; replace B1 := B1.zw hW7; replace hb := (hb).trans (hW7.mono (hb).size)))
         go_ret
         exact ⟨by rw [HV.out]; first | rfl | simp [hz], hb⟩
       · rw [hd] at HDG
         clear hd
         go_upto_region 6 with (first | (refine zla (.tmp 3) B0 Try.underlying23 Try.size23 ?_) | (go_at_call 88; refine (HDG.out _).mono ?_; rintro e W3 ⟨rfl, hW3⟩; replace B0 := B0.zw hW3; replace hb := (hb).trans (hW3.mono (hb).size)))
         have lt_B0 := B0.lt
         go_upto_region 7 with (first | rw [← z64] | (refine zla (.tmp 3) B0 Try.underlying23 Try.size23 ?_) | (go_at_call 25; refine (HDV.out _).mono ?_; rintro e W4 ⟨rfl, hW4⟩; replace B0 := B0.zw hW4; replace hb := (hb).trans (hW4.mono (hb).size)) | (refine wpList_store_blk rfl 23 (.tmp 6) (.tmp 32) rfl _ 64 (dvN n D) rfl rfl 23 _ ((Blk.new W4 64 23 (fun _ => 0))) Try.size23 ?_; try simp only [Act.put]; go_upto_region 7 with (fail)))
         have lt_B0 := B0.lt
         have lhb := hb.size
         obtain ⟨W5, hwo, hzQ⟩ : ∃ v : World, v = ((W4.alloc (.cells (zb 64 (fun _ => 0)) 23)).setRow (W4.heap.size) (zb 64 (dvN n D))) ∧ Blk v (w.heap.size) 64 23 (D) ∧ Blk v (W4.heap.size) 64 23 (dvN n D) ∧ Below w.heap.size w v := ⟨_, rfl, ((B0.alloc (.cells (zb 64 (fun _ => 0)) 23)).rowOther (by omega)), ((Blk.new W4 64 23 (fun _ => 0)).row (dvN n D)), (zr (hb.alloc (by have := hb.size; simp; omega) (.cells (zb 64 (fun _ => 0)) 23)) (by omega) _)⟩
         rw [← hwo]
         clear hwo B0 hb
         obtain ⟨B0, B1, hb⟩ := hzQ
         obtain ⟨N1, hNN⟩ : ∃ n : Nat, n = W4.heap.size := ⟨_, rfl⟩
         rw [← hNN] at lt_B0 lhb B1 ⊢
         clear hNN
         have zN1_0 := lt_B0
         have zN1 := lhb
         clear lt_B0 lhb
         try simp only [Act.put, pA, pB, pC]
         go_wp2_with (first | (refine zla (.tmp 3) B0 Try.underlying23 Try.size23 ?_) | (refine zla (.tmp 6) B1 Try.underlying23 Try.size23 ?_) | (go_at_call 152; refine (HGC.out _).mono ?_; rintro e W6 ⟨rfl, hW6⟩; replace B0 := B0.zw hW6; replace B1 := B1.zw hW6; replace hb := (hb).trans (hW6.mono (hb).size)) | (go_at_call 88; refine (HDQ.out _).mono ?_; rintro e W7 ⟨rfl, hW7⟩; replace B0 := B0.zw hW7; replace B1 := B1.zw hW7; replace hb := (hb).trans (hW7.mono (hb).size)))
         go_ret
         exact ⟨by rw [HV.out]; first | rfl | simp [hz], hb⟩
       · rw [hd] at HDG
         clear hd
         go_upto_region 6 with (first | (refine zla (.tmp 3) B0 Try.underlying23 Try.size23 ?_) | (go_at_call 88; refine (HDG.out _).mono ?_; rintro e W3 ⟨rfl, hW3⟩; replace B0 := B0.zw hW3; replace hb := (hb).trans (hW3.mono (hb).size)))
         have lt_B0 := B0.lt
         go_upto_region 7 with (first | rw [← z64] | (refine zla (.tmp 3) B0 Try.underlying23 Try.size23 ?_) | (go_at_call 25; refine (HDV.out _).mono ?_; rintro e W4 ⟨rfl, hW4⟩; replace B0 := B0.zw hW4; replace hb := (hb).trans (hW4.mono (hb).size)) | (refine wpList_store_blk rfl 23 (.tmp 6) (.tmp 32) rfl _ 64 (dvN n D) rfl rfl 23 _ ((Blk.new W4 64 23 (fun _ => 0))) Try.size23 ?_; try simp only [Act.put]; go_upto_region 7 with (fail)))
         have lt_B0 := B0.lt
         have lhb := hb.size
         obtain ⟨W5, hwo, hzQ⟩ : ∃ v : World, v = ((W4.alloc (.cells (zb 64 (fun _ => 0)) 23)).setRow (W4.heap.size) (zb 64 (dvN n D))) ∧ Blk v (w.heap.size) 64 23 (D) ∧ Blk v (W4.heap.size) 64 23 (dvN n D) ∧ Below w.heap.size w v := ⟨_, rfl, ((B0.alloc (.cells (zb 64 (fun _ => 0)) 23)).rowOther (by omega)), ((Blk.new W4 64 23 (fun _ => 0)).row (dvN n D)), (zr (hb.alloc (by have := hb.size; simp; omega) (.cells (zb 64 (fun _ => 0)) 23)) (by omega) _)⟩
         rw [← hwo]
         clear hwo B0 hb
         obtain ⟨B0, B1, hb⟩ := hzQ
         obtain ⟨N1, hNN⟩ : ∃ n : Nat, n = W4.heap.size := ⟨_, rfl⟩
         rw [← hNN] at lt_B0 lhb B1 ⊢
         clear hNN
         have zN1_0 := lt_B0
         have zN1 := lhb
         clear lt_B0 lhb
         try simp only [Act.put, pA, pB, pC]
         go_wp2_with (first | (refine zla (.tmp 3) B0 Try.underlying23 Try.size23 ?_) | (refine zla (.tmp 6) B1 Try.underlying23 Try.size23 ?_) | (go_at_call 152; refine (HGC.out _).mono ?_; rintro e W6 ⟨rfl, hW6⟩; replace B0 := B0.zw hW6; replace B1 := B1.zw hW6; replace hb := (hb).trans (hW6.mono (hb).size)) | (go_at_call 88; refine (HDQ.out _).mono ?_; rintro e W7 ⟨rfl, hW7⟩; replace B0 := B0.zw hW7; replace B1 := B1.zw hW7; replace hb := (hb).trans (hW7.mono (hb).size)))
         go_ret
         exact ⟨by rw [HV.out]; first | rfl | simp [hz], hb⟩
    · have HV := Lib.hid (dcB_3 (p := (n : Int)) hd)
      have d1 : ¬ deg D = 1 := fun h => hd (.inl h)
      have d3 : ¬ deg D = 3 := fun h => hd (.inr (.inl h))
      have d5 : ¬ deg D = 5 := fun h => hd (.inr (.inr h))
      have b1 : (deg D == 1) = false := beq_eq_false_iff_ne.2 d1
      have b3 : (deg D == 3) = false := beq_eq_false_iff_ne.2 d3
      have b5 : (deg D == 5) = false := beq_eq_false_iff_ne.2 d5
      have c1 : (deg D != 1) = true := bne_iff_ne.2 d1
      have c3 : (deg D != 3) = true := bne_iff_ne.2 d3
      have c5 : (deg D != 5) = true := bne_iff_ne.2 d5
      clear hd
      go_upto_region 5 with (first | (refine zla (.tmp 3) B0 Try.underlying23 Try.size23 ?_) | (go_at_call 88; refine (HDG.out _).mono ?_; rintro e W3 ⟨rfl, hW3⟩; replace B0 := B0.zw hW3; replace hb := (hb).trans (hW3.mono (hb).size)))
      go_wp2_with fail
      go_ret
      exact ⟨by rw [HV.out]; rfl, hb⟩
set_option maxRecDepth 100000 in
set_option maxHeartbeats 3200000 in
theorem l07Form_any (p : Nat) (D A B : Nat → Nat) (w : World) (hpr : p = 2 ∨ p = 3 ∨ p = 5 ∨ p = 7) (lD : ∀ k, k < 64 → D k < p) (hA : byte A) (hB : byte B) :
 Calls Try.prog 125 #[.int .i64 (p : Int), .agg (zb 64 D), .agg (frC A B).toArray] w fun e w' => e = .returned (.bool (fmB (p : Int) D A B)) ∧ Below w.heap.size w w' := by
 have HO1 := Lib.hid (fun W => l01Is_any (p : Int) A hA W)
 have HO2 := Lib.hid (fun W => l01Is_any (p : Int) B hB W)
 have HMO := Lib.hid (fun W => l01Monic_any A hA W)
 have HDA := Lib.hid (fun W => l01Deg_any A W)
 have HDB := Lib.hid (fun W => l01Deg_any B W)
 go_enter Try.func125, Try.ntmps125
 go_upto_region 1 with (fail)
 obtain ⟨W1, hwo⟩ : ∃ v : World, v = ((w.alloc (.cells (zb 64 (D)) 23)).alloc (.cells (frC A B).toArray 55)) := ⟨_, rfl⟩
 have B0 : Blk W1 (w.heap.size) 64 23 (D) := by subst hwo; have := ((Blk.new w 64 23 (D)).alloc (.cells (frC A B).toArray 55)); simpa using this
 have B1 : Row W1 (w.heap.size + 1) 55 (frC A B).toArray := by subst hwo; have := (Row.new (w.alloc (.cells (zb 64 (D)) 23)) 55 (frC A B).toArray); simpa using this
 have hb : Below w.heap.size w W1 := by subst hwo; exact (((Below.refl _ _).alloc (Nat.le_refl _) _).alloc (by simp) _)
 rw [← hwo]
 clear hwo
 cases ho1 : okA (p : Int) A with
 | false =>
  rw [ho1] at HO1
  have HV := Lib.hid (fmB_1 (D := D) (B := B) ho1)
  have lt_B0 : (w.heap.size) < W1.heap.size := B0.lt
  have lt_B1 : (w.heap.size + 1) < W1.heap.size := B1.lt
  have hbase : w.heap.size ≤ W1.heap.size := hb.size
  refine wp_region_stepsG Try.mixed (by kernel_rfl) (by kernel_rfl) (fun v => by (simp only [frL, Act.put, pA, pB, pC, Nat.reduceAdd, Nat.zero_add]; exact rfl))
   (fun L v W2 => Below w.heap.size w W2 ∧ W1.heap.size ≤ W2.heap.size ∧ Blk W2 (w.heap.size) 64 23 (D) ∧ Row W2 (w.heap.size + 1) 55 (frC A B).toArray ∧ VF L v [some (.int .i64 (p : Int)), some (.pointer (some ⟨w.heap.size + 1, 0, none⟩)), some (.agg (zb 64 (A))), some (.bool false), some (.bool true), some (.bool true), some undef, some undef, some undef, some undef, some undef, some (.bool true), some (.bool true), some undef, some undef, some undef, some undef, some (.bool true), some (.bool true), some undef, some undef, some undef, some undef, some (.bool true), some (.bool true), some undef, some undef, some undef, some undef, some undef, some undef, some undef, some (.bool true)]) ?_ ?_ ?_
  · intro v hv0
    exact ⟨hb.drew, Nat.le_refl _, B0.drew, B1.drew, VF.start⟩
  · refine (.cons ?_ (.cons ?_ (.cons ?_ (.cons ?_ (.cons ?_ (.cons ?_ (.cons ?_ (.cons ?_ (.cons ?_ (.cons ?_ (.cons ?_ (.cons ?_ (.cons ?_ (.cons ?_ (.cons ?_ (.cons ?_ (.cons ?_ (.cons ?_ (.cons ?_ (.cons ?_ (.cons ?_ (.cons ?_ (.cons ?_ (.cons ?_ (.cons ?_ (.cons ?_ (.cons ?_ (.cons ?_ (.cons ?_ (.cons ?_ (.cons ?_ (.cons ?_ (.cons ?_ (.nil _))))))))))))))))))))))))))))))))))
    · intro L v W2 hd hn ⟨hB, hz, s0, s1, V⟩ K hK
      rw [if_pos (by simp [Region.wanted])]
      go_wp2_with fail
      exact hK _ (.int .i64 (p : Int)) _ (by simp only [Act.put, pA, pB, pC ]) ⟨hB, hz, s0, s1, V.step 0 rfl⟩
    · intro L v W2 hd hn ⟨hB, hz, s0, s1, V⟩ K hK
      rw [if_pos (by simp [Region.wanted])]
      go_wp2_with fail
      exact hK _ (.pointer (some ⟨w.heap.size + 1, 0, none⟩)) _ (by simp only [Act.put, pA, pB, pC ]) ⟨hB, hz, s0, s1, V.step 1 rfl⟩
    · intro L v W2 hd hn ⟨hB, hz, s0, s1, V⟩ K hK
      have e1 := V.at (zdq hd 1 rfl) rfl
      rw [if_pos (by simp [Region.wanted])]
      refine wp_load_mid 23 _ rfl _ 0 e1 _ _ (s1.fra) Try.underlying23 rfl (by rw [zl]; exact Try.size23) ?_
      exact hK _ _ _ rfl ⟨hB, hz, s0, s1, V.step 2 rfl⟩
    · intro L v W2 hd hn ⟨hB, hz, s0, s1, V⟩ K hK
      have e0 := V.at (zdq hd 0 rfl) rfl
      have e2 := V.at (zdq hd 2 rfl) rfl
      rw [if_pos (by simp [Region.wanted])]
      go_wp2_with (go_at_call 144; refine (HO1.out _).mono ?_; rintro e wy ⟨rfl, hy⟩)
      exact hK _ (.bool false) _ (by simp only [Act.put, pA, pB, pC, e0, e2]) ⟨hB.trans (hy.mono hB.size), (Nat.le_trans hz hy.size), s0.zw hy, s1.zw hy, V.step 3 rfl⟩
    · intro L v W2 hd hn ⟨hB, hz, s0, s1, V⟩ K hK
      have e3 := V.at (zdq hd 3 rfl) rfl
      rw [if_pos (by simp [Region.wanted])]
      go_wp2_with fail
      exact hK _ (.bool true) _ (by simp only [Act.put, pA, pB, pC, e3]) ⟨hB, hz, s0, s1, V.step 4 rfl⟩
    · intro L v W2 hd hn ⟨hB, hz, s0, s1, V⟩ K hK
      have e4 := V.at (zdq hd 4 rfl) rfl
      rw [if_pos (by simp [Region.wanted])]
      go_wp2_with fail
      exact hK _ (.bool true) _ (by simp only [Act.put, pA, pB, pC, e4]) ⟨hB, hz, s0, s1, V.step 5 rfl⟩
    · intro L v W2 hd hn ⟨hB, hz, s0, s1, V⟩ K hK
      have e5 := V.at (zdq hd 5 rfl) rfl
      rw [if_neg (by simp [Region.wanted, yielded, e5])]
      exact hK _ undef _ rfl ⟨hB, hz, s0, s1, V.step 6 rfl⟩
    · intro L v W2 hd hn ⟨hB, hz, s0, s1, V⟩ K hK
      have e5 := V.at (zdq hd 5 rfl) rfl
      rw [if_neg (by simp [Region.wanted, yielded, e5])]
      exact hK _ undef _ rfl ⟨hB, hz, s0, s1, V.step 7 rfl⟩
    · intro L v W2 hd hn ⟨hB, hz, s0, s1, V⟩ K hK
      have e7 := V.at (zdq hd 7 rfl) rfl
      have e5 := V.at (zdq hd 5 rfl) rfl
      rw [if_neg (by simp [Region.wanted, yielded, e5])]
      exact hK _ undef _ rfl ⟨hB, hz, s0, s1, V.step 8 rfl⟩
    · intro L v W2 hd hn ⟨hB, hz, s0, s1, V⟩ K hK
      have e6 := V.at (zdq hd 6 rfl) rfl
      have e8 := V.at (zdq hd 8 rfl) rfl
      have e5 := V.at (zdq hd 5 rfl) rfl
      rw [if_neg (by simp [Region.wanted, yielded, e5])]
      exact hK _ undef _ rfl ⟨hB, hz, s0, s1, V.step 9 rfl⟩
    · intro L v W2 hd hn ⟨hB, hz, s0, s1, V⟩ K hK
      have e9 := V.at (zdq hd 9 rfl) rfl
      have e5 := V.at (zdq hd 5 rfl) rfl
      rw [if_neg (by simp [Region.wanted, yielded, e5])]
      exact hK _ undef _ rfl ⟨hB, hz, s0, s1, V.step 10 rfl⟩
    · intro L v W2 hd hn ⟨hB, hz, s0, s1, V⟩ K hK
      have e5 := V.at (zdq hd 5 rfl) rfl
      have e10 := V.at (zdq hd 10 rfl) rfl
      rw [if_pos (by simp [Region.wanted])]
      go_wp2_with fail
      exact hK _ (.bool true) _ (by simp only [Act.put, pA, pB, pC, e5, e10]) ⟨hB, hz, s0, s1, V.step 11 rfl⟩
    · intro L v W2 hd hn ⟨hB, hz, s0, s1, V⟩ K hK
      have e11 := V.at (zdq hd 11 rfl) rfl
      rw [if_pos (by simp [Region.wanted])]
      go_wp2_with fail
      exact hK _ (.bool true) _ (by simp only [Act.put, pA, pB, pC, e11]) ⟨hB, hz, s0, s1, V.step 12 rfl⟩
    · intro L v W2 hd hn ⟨hB, hz, s0, s1, V⟩ K hK
      have e12 := V.at (zdq hd 12 rfl) rfl
      rw [if_neg (by simp [Region.wanted, yielded, e12])]
      exact hK _ undef _ rfl ⟨hB, hz, s0, s1, V.step 13 rfl⟩
    · intro L v W2 hd hn ⟨hB, hz, s0, s1, V⟩ K hK
      have e13 := V.at (zdq hd 13 rfl) rfl
      have e12 := V.at (zdq hd 12 rfl) rfl
      rw [if_neg (by simp [Region.wanted, yielded, e12])]
      exact hK _ undef _ rfl ⟨hB, hz, s0, s1, V.step 14 rfl⟩
    · intro L v W2 hd hn ⟨hB, hz, s0, s1, V⟩ K hK
      have e14 := V.at (zdq hd 14 rfl) rfl
      have e12 := V.at (zdq hd 12 rfl) rfl
      rw [if_neg (by simp [Region.wanted, yielded, e12])]
      exact hK _ undef _ rfl ⟨hB, hz, s0, s1, V.step 15 rfl⟩
    · intro L v W2 hd hn ⟨hB, hz, s0, s1, V⟩ K hK
      have e15 := V.at (zdq hd 15 rfl) rfl
      have e12 := V.at (zdq hd 12 rfl) rfl
      rw [if_neg (by simp [Region.wanted, yielded, e12])]
      exact hK _ undef _ rfl ⟨hB, hz, s0, s1, V.step 16 rfl⟩
    · intro L v W2 hd hn ⟨hB, hz, s0, s1, V⟩ K hK
      have e12 := V.at (zdq hd 12 rfl) rfl
      have e16 := V.at (zdq hd 16 rfl) rfl
      rw [if_pos (by simp [Region.wanted])]
      go_wp2_with fail
      exact hK _ (.bool true) _ (by simp only [Act.put, pA, pB, pC, e12, e16]) ⟨hB, hz, s0, s1, V.step 17 rfl⟩
    · intro L v W2 hd hn ⟨hB, hz, s0, s1, V⟩ K hK
      have e17 := V.at (zdq hd 17 rfl) rfl
      rw [if_pos (by simp [Region.wanted])]
      go_wp2_with fail
      exact hK _ (.bool true) _ (by simp only [Act.put, pA, pB, pC, e17]) ⟨hB, hz, s0, s1, V.step 18 rfl⟩
    · intro L v W2 hd hn ⟨hB, hz, s0, s1, V⟩ K hK
      have e18 := V.at (zdq hd 18 rfl) rfl
      rw [if_neg (by simp [Region.wanted, yielded, e18])]
      exact hK _ undef _ rfl ⟨hB, hz, s0, s1, V.step 19 rfl⟩
    · intro L v W2 hd hn ⟨hB, hz, s0, s1, V⟩ K hK
      have e19 := V.at (zdq hd 19 rfl) rfl
      have e18 := V.at (zdq hd 18 rfl) rfl
      rw [if_neg (by simp [Region.wanted, yielded, e18])]
      exact hK _ undef _ rfl ⟨hB, hz, s0, s1, V.step 20 rfl⟩
    · intro L v W2 hd hn ⟨hB, hz, s0, s1, V⟩ K hK
      have e20 := V.at (zdq hd 20 rfl) rfl
      have e18 := V.at (zdq hd 18 rfl) rfl
      rw [if_neg (by simp [Region.wanted, yielded, e18])]
      exact hK _ undef _ rfl ⟨hB, hz, s0, s1, V.step 21 rfl⟩
    · intro L v W2 hd hn ⟨hB, hz, s0, s1, V⟩ K hK
      have e21 := V.at (zdq hd 21 rfl) rfl
      have e18 := V.at (zdq hd 18 rfl) rfl
      rw [if_neg (by simp [Region.wanted, yielded, e18])]
      exact hK _ undef _ rfl ⟨hB, hz, s0, s1, V.step 22 rfl⟩
    · intro L v W2 hd hn ⟨hB, hz, s0, s1, V⟩ K hK
      have e18 := V.at (zdq hd 18 rfl) rfl
      have e22 := V.at (zdq hd 22 rfl) rfl
      rw [if_pos (by simp [Region.wanted])]
      go_wp2_with fail
      exact hK _ (.bool true) _ (by simp only [Act.put, pA, pB, pC, e18, e22]) ⟨hB, hz, s0, s1, V.step 23 rfl⟩
    · intro L v W2 hd hn ⟨hB, hz, s0, s1, V⟩ K hK
      have e23 := V.at (zdq hd 23 rfl) rfl
      rw [if_pos (by simp [Region.wanted])]
      go_wp2_with fail
      exact hK _ (.bool true) _ (by simp only [Act.put, pA, pB, pC, e23]) ⟨hB, hz, s0, s1, V.step 24 rfl⟩
    · intro L v W2 hd hn ⟨hB, hz, s0, s1, V⟩ K hK
      have e24 := V.at (zdq hd 24 rfl) rfl
      rw [if_neg (by simp [Region.wanted, yielded, e24])]
      exact hK _ undef _ rfl ⟨hB, hz, s0, s1, V.step 25 rfl⟩
    · intro L v W2 hd hn ⟨hB, hz, s0, s1, V⟩ K hK
      have e25 := V.at (zdq hd 25 rfl) rfl
      have e24 := V.at (zdq hd 24 rfl) rfl
      rw [if_neg (by simp [Region.wanted, yielded, e24])]
      exact hK _ undef _ rfl ⟨hB, hz, s0, s1, V.step 26 rfl⟩
    · intro L v W2 hd hn ⟨hB, hz, s0, s1, V⟩ K hK
      have e26 := V.at (zdq hd 26 rfl) rfl
      have e24 := V.at (zdq hd 24 rfl) rfl
      rw [if_neg (by simp [Region.wanted, yielded, e24])]
      exact hK _ undef _ rfl ⟨hB, hz, s0, s1, V.step 27 rfl⟩
    · intro L v W2 hd hn ⟨hB, hz, s0, s1, V⟩ K hK
      have e24 := V.at (zdq hd 24 rfl) rfl
      rw [if_neg (by simp [Region.wanted, yielded, e24])]
      exact hK _ undef _ rfl ⟨hB, hz, s0, s1, V.step 28 rfl⟩
    · intro L v W2 hd hn ⟨hB, hz, s0, s1, V⟩ K hK
      have e28 := V.at (zdq hd 28 rfl) rfl
      have e24 := V.at (zdq hd 24 rfl) rfl
      rw [if_neg (by simp [Region.wanted, yielded, e24])]
      exact hK _ undef _ rfl ⟨hB, hz, s0, s1, V.step 29 rfl⟩
    · intro L v W2 hd hn ⟨hB, hz, s0, s1, V⟩ K hK
      have e29 := V.at (zdq hd 29 rfl) rfl
      have e24 := V.at (zdq hd 24 rfl) rfl
      rw [if_neg (by simp [Region.wanted, yielded, e24])]
      exact hK _ undef _ rfl ⟨hB, hz, s0, s1, V.step 30 rfl⟩
    · intro L v W2 hd hn ⟨hB, hz, s0, s1, V⟩ K hK
      have e27 := V.at (zdq hd 27 rfl) rfl
      have e30 := V.at (zdq hd 30 rfl) rfl
      have e24 := V.at (zdq hd 24 rfl) rfl
      rw [if_neg (by simp [Region.wanted, yielded, e24])]
      exact hK _ undef _ rfl ⟨hB, hz, s0, s1, V.step 31 rfl⟩
    · intro L v W2 hd hn ⟨hB, hz, s0, s1, V⟩ K hK
      have e24 := V.at (zdq hd 24 rfl) rfl
      have e31 := V.at (zdq hd 31 rfl) rfl
      rw [if_pos (by simp [Region.wanted])]
      go_wp2_with fail
      exact hK _ (.bool true) _ (by simp only [Act.put, pA, pB, pC, e24, e31]) ⟨hB, hz, s0, s1, V.step 32 rfl⟩
  · intro L v W2 hL ⟨hB, hz, s0, s1, V⟩
    have e0 := V.at (hL 0 (by decide)) rfl
    have e1 := V.at (hL 1 (by decide)) rfl
    have e2 := V.at (hL 2 (by decide)) rfl
    have e3 := V.at (hL 3 (by decide)) rfl
    have e4 := V.at (hL 4 (by decide)) rfl
    have e5 := V.at (hL 5 (by decide)) rfl
    have e6 := V.at (hL 6 (by decide)) rfl
    have e7 := V.at (hL 7 (by decide)) rfl
    have e8 := V.at (hL 8 (by decide)) rfl
    have e9 := V.at (hL 9 (by decide)) rfl
    have e10 := V.at (hL 10 (by decide)) rfl
    have e11 := V.at (hL 11 (by decide)) rfl
    have e12 := V.at (hL 12 (by decide)) rfl
    have e13 := V.at (hL 13 (by decide)) rfl
    have e14 := V.at (hL 14 (by decide)) rfl
    have e15 := V.at (hL 15 (by decide)) rfl
    have e16 := V.at (hL 16 (by decide)) rfl
    have e17 := V.at (hL 17 (by decide)) rfl
    have e18 := V.at (hL 18 (by decide)) rfl
    have e19 := V.at (hL 19 (by decide)) rfl
    have e20 := V.at (hL 20 (by decide)) rfl
    have e21 := V.at (hL 21 (by decide)) rfl
    have e22 := V.at (hL 22 (by decide)) rfl
    have e23 := V.at (hL 23 (by decide)) rfl
    have e24 := V.at (hL 24 (by decide)) rfl
    have e25 := V.at (hL 25 (by decide)) rfl
    have e26 := V.at (hL 26 (by decide)) rfl
    have e27 := V.at (hL 27 (by decide)) rfl
    have e28 := V.at (hL 28 (by decide)) rfl
    have e29 := V.at (hL 29 (by decide)) rfl
    have e30 := V.at (hL 30 (by decide)) rfl
    have e31 := V.at (hL 31 (by decide)) rfl
    have e32 := V.at (hL 32 (by decide)) rfl
    clear hL V
    simp only [Exit.then, e0, e1, e2, e3, e4, e5, e6, e7, e8, e9, e10, e11, e12, e13, e14, e15, e16, e17, e18, e19, e20, e21, e22, e23, e24, e25, e26, e27, e28, e29, e30, e31, e32]
    clear e0 e1 e2 e3 e4 e5 e6 e7 e8 e9 e10 e11 e12 e13 e14 e15 e16 e17 e18 e19 e20 e21 e22 e23 e24 e25 e26 e27 e28 e29 e30 e31 e32
    replace B0 := s0
    clear s0
    replace B1 := s1
    clear s1
    replace hb := hB
    clear hB
    clear hbase hz lt_B0 lt_B1
    go_wp2_with fail
    go_ret
    exact ⟨by rw [HV.out]; rfl, hb⟩
 | true =>
  cases ho2 : okA (p : Int) B with
  | false =>
   rw [ho1] at HO1
   rw [ho2] at HO2
   have HV := Lib.hid (fmB_2 (D := D) (A := A) ho2)
   have lt_B0 : (w.heap.size) < W1.heap.size := B0.lt
   have lt_B1 : (w.heap.size + 1) < W1.heap.size := B1.lt
   have hbase : w.heap.size ≤ W1.heap.size := hb.size
   refine wp_region_stepsG Try.mixed (by kernel_rfl) (by kernel_rfl) (fun v => by (simp only [frL, Act.put, pA, pB, pC, Nat.reduceAdd, Nat.zero_add]; exact rfl))
    (fun L v W2 => Below w.heap.size w W2 ∧ W1.heap.size ≤ W2.heap.size ∧ Blk W2 (w.heap.size) 64 23 (D) ∧ Row W2 (w.heap.size + 1) 55 (frC A B).toArray ∧ VF L v [some (.int .i64 (p : Int)), some (.pointer (some ⟨w.heap.size + 1, 0, none⟩)), some (.agg (zb 64 (A))), some (.bool true), some (.bool false), some (.bool false), some (.int .i64 (p : Int)), some (.pointer (some ⟨w.heap.size + 1, 64, none⟩)), some (.agg (zb 64 (B))), some (.bool false), some (.bool true), some (.bool true), some (.bool true), some undef, some undef, some undef, some undef, some (.bool true), some (.bool true), some undef, some undef, some undef, some undef, some (.bool true), some (.bool true), some undef, some undef, some undef, some undef, some undef, some undef, some undef, some (.bool true)]) ?_ ?_ ?_
   · intro v hv0
     exact ⟨hb.drew, Nat.le_refl _, B0.drew, B1.drew, VF.start⟩
   · refine (.cons ?_ (.cons ?_ (.cons ?_ (.cons ?_ (.cons ?_ (.cons ?_ (.cons ?_ (.cons ?_ (.cons ?_ (.cons ?_ (.cons ?_ (.cons ?_ (.cons ?_ (.cons ?_ (.cons ?_ (.cons ?_ (.cons ?_ (.cons ?_ (.cons ?_ (.cons ?_ (.cons ?_ (.cons ?_ (.cons ?_ (.cons ?_ (.cons ?_ (.cons ?_ (.cons ?_ (.cons ?_ (.cons ?_ (.cons ?_ (.cons ?_ (.cons ?_ (.cons ?_ (.nil _))))))))))))))))))))))))))))))))))
     · intro L v W2 hd hn ⟨hB, hz, s0, s1, V⟩ K hK
       rw [if_pos (by simp [Region.wanted])]
       go_wp2_with fail
       exact hK _ (.int .i64 (p : Int)) _ (by simp only [Act.put, pA, pB, pC ]) ⟨hB, hz, s0, s1, V.step 0 rfl⟩
     · intro L v W2 hd hn ⟨hB, hz, s0, s1, V⟩ K hK
       rw [if_pos (by simp [Region.wanted])]
       go_wp2_with fail
       exact hK _ (.pointer (some ⟨w.heap.size + 1, 0, none⟩)) _ (by simp only [Act.put, pA, pB, pC ]) ⟨hB, hz, s0, s1, V.step 1 rfl⟩
     · intro L v W2 hd hn ⟨hB, hz, s0, s1, V⟩ K hK
       have e1 := V.at (zdq hd 1 rfl) rfl
       rw [if_pos (by simp [Region.wanted])]
       refine wp_load_mid 23 _ rfl _ 0 e1 _ _ (s1.fra) Try.underlying23 rfl (by rw [zl]; exact Try.size23) ?_
       exact hK _ _ _ rfl ⟨hB, hz, s0, s1, V.step 2 rfl⟩
     · intro L v W2 hd hn ⟨hB, hz, s0, s1, V⟩ K hK
       have e0 := V.at (zdq hd 0 rfl) rfl
       have e2 := V.at (zdq hd 2 rfl) rfl
       rw [if_pos (by simp [Region.wanted])]
       go_wp2_with (go_at_call 144; refine (HO1.out _).mono ?_; rintro e wy ⟨rfl, hy⟩)
       exact hK _ (.bool true) _ (by simp only [Act.put, pA, pB, pC, e0, e2]) ⟨hB.trans (hy.mono hB.size), (Nat.le_trans hz hy.size), s0.zw hy, s1.zw hy, V.step 3 rfl⟩
     · intro L v W2 hd hn ⟨hB, hz, s0, s1, V⟩ K hK
       have e3 := V.at (zdq hd 3 rfl) rfl
       rw [if_pos (by simp [Region.wanted])]
       go_wp2_with fail
       exact hK _ (.bool false) _ (by simp only [Act.put, pA, pB, pC, e3]) ⟨hB, hz, s0, s1, V.step 4 rfl⟩
     · intro L v W2 hd hn ⟨hB, hz, s0, s1, V⟩ K hK
       have e4 := V.at (zdq hd 4 rfl) rfl
       rw [if_pos (by simp [Region.wanted])]
       go_wp2_with fail
       exact hK _ (.bool false) _ (by simp only [Act.put, pA, pB, pC, e4]) ⟨hB, hz, s0, s1, V.step 5 rfl⟩
     · intro L v W2 hd hn ⟨hB, hz, s0, s1, V⟩ K hK
       have e5 := V.at (zdq hd 5 rfl) rfl
       rw [if_pos (by simp [Region.wanted, yielded, e5])]
       go_wp2_with fail
       exact hK _ (.int .i64 (p : Int)) _ (by simp only [Act.put, pA, pB, pC, e5]) ⟨hB, hz, s0, s1, V.step 6 rfl⟩
     · intro L v W2 hd hn ⟨hB, hz, s0, s1, V⟩ K hK
       have e5 := V.at (zdq hd 5 rfl) rfl
       rw [if_pos (by simp [Region.wanted, yielded, e5])]
       go_wp2_with fail
       exact hK _ (.pointer (some ⟨w.heap.size + 1, 64, none⟩)) _ (by simp only [Act.put, pA, pB, pC, e5]) ⟨hB, hz, s0, s1, V.step 7 rfl⟩
     · intro L v W2 hd hn ⟨hB, hz, s0, s1, V⟩ K hK
       have e7 := V.at (zdq hd 7 rfl) rfl
       have e5 := V.at (zdq hd 5 rfl) rfl
       rw [if_pos (by simp [Region.wanted, yielded, e5])]
       refine wp_load_mid 23 _ rfl _ 64 e7 _ _ (s1.frb) Try.underlying23 rfl (by rw [zl]; exact Try.size23) ?_
       exact hK _ _ _ rfl ⟨hB, hz, s0, s1, V.step 8 rfl⟩
     · intro L v W2 hd hn ⟨hB, hz, s0, s1, V⟩ K hK
       have e6 := V.at (zdq hd 6 rfl) rfl
       have e8 := V.at (zdq hd 8 rfl) rfl
       have e5 := V.at (zdq hd 5 rfl) rfl
       rw [if_pos (by simp [Region.wanted, yielded, e5])]
       go_wp2_with (go_at_call 144; refine (HO2.out _).mono ?_; rintro e wy ⟨rfl, hy⟩)
       exact hK _ (.bool false) _ (by simp only [Act.put, pA, pB, pC, e6, e8, e5]) ⟨hB.trans (hy.mono hB.size), (Nat.le_trans hz hy.size), s0.zw hy, s1.zw hy, V.step 9 rfl⟩
     · intro L v W2 hd hn ⟨hB, hz, s0, s1, V⟩ K hK
       have e9 := V.at (zdq hd 9 rfl) rfl
       have e5 := V.at (zdq hd 5 rfl) rfl
       rw [if_pos (by simp [Region.wanted, yielded, e5])]
       go_wp2_with fail
       exact hK _ (.bool true) _ (by simp only [Act.put, pA, pB, pC, e9, e5]) ⟨hB, hz, s0, s1, V.step 10 rfl⟩
     · intro L v W2 hd hn ⟨hB, hz, s0, s1, V⟩ K hK
       have e5 := V.at (zdq hd 5 rfl) rfl
       have e10 := V.at (zdq hd 10 rfl) rfl
       rw [if_pos (by simp [Region.wanted])]
       go_wp2_with fail
       exact hK _ (.bool true) _ (by simp only [Act.put, pA, pB, pC, e5, e10]) ⟨hB, hz, s0, s1, V.step 11 rfl⟩
     · intro L v W2 hd hn ⟨hB, hz, s0, s1, V⟩ K hK
       have e11 := V.at (zdq hd 11 rfl) rfl
       rw [if_pos (by simp [Region.wanted])]
       go_wp2_with fail
       exact hK _ (.bool true) _ (by simp only [Act.put, pA, pB, pC, e11]) ⟨hB, hz, s0, s1, V.step 12 rfl⟩
     · intro L v W2 hd hn ⟨hB, hz, s0, s1, V⟩ K hK
       have e12 := V.at (zdq hd 12 rfl) rfl
       rw [if_neg (by simp [Region.wanted, yielded, e12])]
       exact hK _ undef _ rfl ⟨hB, hz, s0, s1, V.step 13 rfl⟩
     · intro L v W2 hd hn ⟨hB, hz, s0, s1, V⟩ K hK
       have e13 := V.at (zdq hd 13 rfl) rfl
       have e12 := V.at (zdq hd 12 rfl) rfl
       rw [if_neg (by simp [Region.wanted, yielded, e12])]
       exact hK _ undef _ rfl ⟨hB, hz, s0, s1, V.step 14 rfl⟩
     · intro L v W2 hd hn ⟨hB, hz, s0, s1, V⟩ K hK
       have e14 := V.at (zdq hd 14 rfl) rfl
       have e12 := V.at (zdq hd 12 rfl) rfl
       rw [if_neg (by simp [Region.wanted, yielded, e12])]
       exact hK _ undef _ rfl ⟨hB, hz, s0, s1, V.step 15 rfl⟩
     · intro L v W2 hd hn ⟨hB, hz, s0, s1, V⟩ K hK
       have e15 := V.at (zdq hd 15 rfl) rfl
       have e12 := V.at (zdq hd 12 rfl) rfl
       rw [if_neg (by simp [Region.wanted, yielded, e12])]
       exact hK _ undef _ rfl ⟨hB, hz, s0, s1, V.step 16 rfl⟩
     · intro L v W2 hd hn ⟨hB, hz, s0, s1, V⟩ K hK
       have e12 := V.at (zdq hd 12 rfl) rfl
       have e16 := V.at (zdq hd 16 rfl) rfl
       rw [if_pos (by simp [Region.wanted])]
       go_wp2_with fail
       exact hK _ (.bool true) _ (by simp only [Act.put, pA, pB, pC, e12, e16]) ⟨hB, hz, s0, s1, V.step 17 rfl⟩
     · intro L v W2 hd hn ⟨hB, hz, s0, s1, V⟩ K hK
       have e17 := V.at (zdq hd 17 rfl) rfl
       rw [if_pos (by simp [Region.wanted])]
       go_wp2_with fail
       exact hK _ (.bool true) _ (by simp only [Act.put, pA, pB, pC, e17]) ⟨hB, hz, s0, s1, V.step 18 rfl⟩
     · intro L v W2 hd hn ⟨hB, hz, s0, s1, V⟩ K hK
       have e18 := V.at (zdq hd 18 rfl) rfl
       rw [if_neg (by simp [Region.wanted, yielded, e18])]
       exact hK _ undef _ rfl ⟨hB, hz, s0, s1, V.step 19 rfl⟩
     · intro L v W2 hd hn ⟨hB, hz, s0, s1, V⟩ K hK
       have e19 := V.at (zdq hd 19 rfl) rfl
       have e18 := V.at (zdq hd 18 rfl) rfl
       rw [if_neg (by simp [Region.wanted, yielded, e18])]
       exact hK _ undef _ rfl ⟨hB, hz, s0, s1, V.step 20 rfl⟩
     · intro L v W2 hd hn ⟨hB, hz, s0, s1, V⟩ K hK
       have e20 := V.at (zdq hd 20 rfl) rfl
       have e18 := V.at (zdq hd 18 rfl) rfl
       rw [if_neg (by simp [Region.wanted, yielded, e18])]
       exact hK _ undef _ rfl ⟨hB, hz, s0, s1, V.step 21 rfl⟩
     · intro L v W2 hd hn ⟨hB, hz, s0, s1, V⟩ K hK
       have e21 := V.at (zdq hd 21 rfl) rfl
       have e18 := V.at (zdq hd 18 rfl) rfl
       rw [if_neg (by simp [Region.wanted, yielded, e18])]
       exact hK _ undef _ rfl ⟨hB, hz, s0, s1, V.step 22 rfl⟩
     · intro L v W2 hd hn ⟨hB, hz, s0, s1, V⟩ K hK
       have e18 := V.at (zdq hd 18 rfl) rfl
       have e22 := V.at (zdq hd 22 rfl) rfl
       rw [if_pos (by simp [Region.wanted])]
       go_wp2_with fail
       exact hK _ (.bool true) _ (by simp only [Act.put, pA, pB, pC, e18, e22]) ⟨hB, hz, s0, s1, V.step 23 rfl⟩
     · intro L v W2 hd hn ⟨hB, hz, s0, s1, V⟩ K hK
       have e23 := V.at (zdq hd 23 rfl) rfl
       rw [if_pos (by simp [Region.wanted])]
       go_wp2_with fail
       exact hK _ (.bool true) _ (by simp only [Act.put, pA, pB, pC, e23]) ⟨hB, hz, s0, s1, V.step 24 rfl⟩
     · intro L v W2 hd hn ⟨hB, hz, s0, s1, V⟩ K hK
       have e24 := V.at (zdq hd 24 rfl) rfl
       rw [if_neg (by simp [Region.wanted, yielded, e24])]
       exact hK _ undef _ rfl ⟨hB, hz, s0, s1, V.step 25 rfl⟩
     · intro L v W2 hd hn ⟨hB, hz, s0, s1, V⟩ K hK
       have e25 := V.at (zdq hd 25 rfl) rfl
       have e24 := V.at (zdq hd 24 rfl) rfl
       rw [if_neg (by simp [Region.wanted, yielded, e24])]
       exact hK _ undef _ rfl ⟨hB, hz, s0, s1, V.step 26 rfl⟩
     · intro L v W2 hd hn ⟨hB, hz, s0, s1, V⟩ K hK
       have e26 := V.at (zdq hd 26 rfl) rfl
       have e24 := V.at (zdq hd 24 rfl) rfl
       rw [if_neg (by simp [Region.wanted, yielded, e24])]
       exact hK _ undef _ rfl ⟨hB, hz, s0, s1, V.step 27 rfl⟩
     · intro L v W2 hd hn ⟨hB, hz, s0, s1, V⟩ K hK
       have e24 := V.at (zdq hd 24 rfl) rfl
       rw [if_neg (by simp [Region.wanted, yielded, e24])]
       exact hK _ undef _ rfl ⟨hB, hz, s0, s1, V.step 28 rfl⟩
     · intro L v W2 hd hn ⟨hB, hz, s0, s1, V⟩ K hK
       have e28 := V.at (zdq hd 28 rfl) rfl
       have e24 := V.at (zdq hd 24 rfl) rfl
       rw [if_neg (by simp [Region.wanted, yielded, e24])]
       exact hK _ undef _ rfl ⟨hB, hz, s0, s1, V.step 29 rfl⟩
     · intro L v W2 hd hn ⟨hB, hz, s0, s1, V⟩ K hK
       have e29 := V.at (zdq hd 29 rfl) rfl
       have e24 := V.at (zdq hd 24 rfl) rfl
       rw [if_neg (by simp [Region.wanted, yielded, e24])]
       exact hK _ undef _ rfl ⟨hB, hz, s0, s1, V.step 30 rfl⟩
     · intro L v W2 hd hn ⟨hB, hz, s0, s1, V⟩ K hK
       have e27 := V.at (zdq hd 27 rfl) rfl
       have e30 := V.at (zdq hd 30 rfl) rfl
       have e24 := V.at (zdq hd 24 rfl) rfl
       rw [if_neg (by simp [Region.wanted, yielded, e24])]
       exact hK _ undef _ rfl ⟨hB, hz, s0, s1, V.step 31 rfl⟩
     · intro L v W2 hd hn ⟨hB, hz, s0, s1, V⟩ K hK
       have e24 := V.at (zdq hd 24 rfl) rfl
       have e31 := V.at (zdq hd 31 rfl) rfl
       rw [if_pos (by simp [Region.wanted])]
       go_wp2_with fail
       exact hK _ (.bool true) _ (by simp only [Act.put, pA, pB, pC, e24, e31]) ⟨hB, hz, s0, s1, V.step 32 rfl⟩
   · intro L v W2 hL ⟨hB, hz, s0, s1, V⟩
     have e0 := V.at (hL 0 (by decide)) rfl
     have e1 := V.at (hL 1 (by decide)) rfl
     have e2 := V.at (hL 2 (by decide)) rfl
     have e3 := V.at (hL 3 (by decide)) rfl
     have e4 := V.at (hL 4 (by decide)) rfl
     have e5 := V.at (hL 5 (by decide)) rfl
     have e6 := V.at (hL 6 (by decide)) rfl
     have e7 := V.at (hL 7 (by decide)) rfl
     have e8 := V.at (hL 8 (by decide)) rfl
     have e9 := V.at (hL 9 (by decide)) rfl
     have e10 := V.at (hL 10 (by decide)) rfl
     have e11 := V.at (hL 11 (by decide)) rfl
     have e12 := V.at (hL 12 (by decide)) rfl
     have e13 := V.at (hL 13 (by decide)) rfl
     have e14 := V.at (hL 14 (by decide)) rfl
     have e15 := V.at (hL 15 (by decide)) rfl
     have e16 := V.at (hL 16 (by decide)) rfl
     have e17 := V.at (hL 17 (by decide)) rfl
     have e18 := V.at (hL 18 (by decide)) rfl
     have e19 := V.at (hL 19 (by decide)) rfl
     have e20 := V.at (hL 20 (by decide)) rfl
     have e21 := V.at (hL 21 (by decide)) rfl
     have e22 := V.at (hL 22 (by decide)) rfl
     have e23 := V.at (hL 23 (by decide)) rfl
     have e24 := V.at (hL 24 (by decide)) rfl
     have e25 := V.at (hL 25 (by decide)) rfl
     have e26 := V.at (hL 26 (by decide)) rfl
     have e27 := V.at (hL 27 (by decide)) rfl
     have e28 := V.at (hL 28 (by decide)) rfl
     have e29 := V.at (hL 29 (by decide)) rfl
     have e30 := V.at (hL 30 (by decide)) rfl
     have e31 := V.at (hL 31 (by decide)) rfl
     have e32 := V.at (hL 32 (by decide)) rfl
     clear hL V
     simp only [Exit.then, e0, e1, e2, e3, e4, e5, e6, e7, e8, e9, e10, e11, e12, e13, e14, e15, e16, e17, e18, e19, e20, e21, e22, e23, e24, e25, e26, e27, e28, e29, e30, e31, e32]
     clear e0 e1 e2 e3 e4 e5 e6 e7 e8 e9 e10 e11 e12 e13 e14 e15 e16 e17 e18 e19 e20 e21 e22 e23 e24 e25 e26 e27 e28 e29 e30 e31 e32
     replace B0 := s0
     clear s0
     replace B1 := s1
     clear s1
     replace hb := hB
     clear hB
     clear hbase hz lt_B0 lt_B1
     go_wp2_with fail
     go_ret
     exact ⟨by rw [HV.out]; rfl, hb⟩
  | true =>
   cases hmo : monB A with
   | false =>
    rw [ho1] at HO1
    rw [ho2] at HO2
    rw [hmo] at HMO
    have HV := Lib.hid (fmB_3 (p := (p : Int)) (D := D) (B := B) hmo)
    have lt_B0 : (w.heap.size) < W1.heap.size := B0.lt
    have lt_B1 : (w.heap.size + 1) < W1.heap.size := B1.lt
    have hbase : w.heap.size ≤ W1.heap.size := hb.size
    refine wp_region_stepsG Try.mixed (by kernel_rfl) (by kernel_rfl) (fun v => by (simp only [frL, Act.put, pA, pB, pC, Nat.reduceAdd, Nat.zero_add]; exact rfl))
     (fun L v W2 => Below w.heap.size w W2 ∧ W1.heap.size ≤ W2.heap.size ∧ Blk W2 (w.heap.size) 64 23 (D) ∧ Row W2 (w.heap.size + 1) 55 (frC A B).toArray ∧ VF L v [some (.int .i64 (p : Int)), some (.pointer (some ⟨w.heap.size + 1, 0, none⟩)), some (.agg (zb 64 (A))), some (.bool true), some (.bool false), some (.bool false), some (.int .i64 (p : Int)), some (.pointer (some ⟨w.heap.size + 1, 64, none⟩)), some (.agg (zb 64 (B))), some (.bool true), some (.bool false), some (.bool false), some (.bool false), some (.pointer (some ⟨w.heap.size + 1, 0, none⟩)), some (.agg (zb 64 (A))), some (.bool false), some (.bool true), some (.bool true), some (.bool true), some undef, some undef, some undef, some undef, some (.bool true), some (.bool true), some undef, some undef, some undef, some undef, some undef, some undef, some undef, some (.bool true)]) ?_ ?_ ?_
    · intro v hv0
      exact ⟨hb.drew, Nat.le_refl _, B0.drew, B1.drew, VF.start⟩
    · refine (.cons ?_ (.cons ?_ (.cons ?_ (.cons ?_ (.cons ?_ (.cons ?_ (.cons ?_ (.cons ?_ (.cons ?_ (.cons ?_ (.cons ?_ (.cons ?_ (.cons ?_ (.cons ?_ (.cons ?_ (.cons ?_ (.cons ?_ (.cons ?_ (.cons ?_ (.cons ?_ (.cons ?_ (.cons ?_ (.cons ?_ (.cons ?_ (.cons ?_ (.cons ?_ (.cons ?_ (.cons ?_ (.cons ?_ (.cons ?_ (.cons ?_ (.cons ?_ (.cons ?_ (.nil _))))))))))))))))))))))))))))))))))
      · intro L v W2 hd hn ⟨hB, hz, s0, s1, V⟩ K hK
        rw [if_pos (by simp [Region.wanted])]
        go_wp2_with fail
        exact hK _ (.int .i64 (p : Int)) _ (by simp only [Act.put, pA, pB, pC ]) ⟨hB, hz, s0, s1, V.step 0 rfl⟩
      · intro L v W2 hd hn ⟨hB, hz, s0, s1, V⟩ K hK
        rw [if_pos (by simp [Region.wanted])]
        go_wp2_with fail
        exact hK _ (.pointer (some ⟨w.heap.size + 1, 0, none⟩)) _ (by simp only [Act.put, pA, pB, pC ]) ⟨hB, hz, s0, s1, V.step 1 rfl⟩
      · intro L v W2 hd hn ⟨hB, hz, s0, s1, V⟩ K hK
        have e1 := V.at (zdq hd 1 rfl) rfl
        rw [if_pos (by simp [Region.wanted])]
        refine wp_load_mid 23 _ rfl _ 0 e1 _ _ (s1.fra) Try.underlying23 rfl (by rw [zl]; exact Try.size23) ?_
        exact hK _ _ _ rfl ⟨hB, hz, s0, s1, V.step 2 rfl⟩
      · intro L v W2 hd hn ⟨hB, hz, s0, s1, V⟩ K hK
        have e0 := V.at (zdq hd 0 rfl) rfl
        have e2 := V.at (zdq hd 2 rfl) rfl
        rw [if_pos (by simp [Region.wanted])]
        go_wp2_with (go_at_call 144; refine (HO1.out _).mono ?_; rintro e wy ⟨rfl, hy⟩)
        exact hK _ (.bool true) _ (by simp only [Act.put, pA, pB, pC, e0, e2]) ⟨hB.trans (hy.mono hB.size), (Nat.le_trans hz hy.size), s0.zw hy, s1.zw hy, V.step 3 rfl⟩
      · intro L v W2 hd hn ⟨hB, hz, s0, s1, V⟩ K hK
        have e3 := V.at (zdq hd 3 rfl) rfl
        rw [if_pos (by simp [Region.wanted])]
        go_wp2_with fail
        exact hK _ (.bool false) _ (by simp only [Act.put, pA, pB, pC, e3]) ⟨hB, hz, s0, s1, V.step 4 rfl⟩
      · intro L v W2 hd hn ⟨hB, hz, s0, s1, V⟩ K hK
        have e4 := V.at (zdq hd 4 rfl) rfl
        rw [if_pos (by simp [Region.wanted])]
        go_wp2_with fail
        exact hK _ (.bool false) _ (by simp only [Act.put, pA, pB, pC, e4]) ⟨hB, hz, s0, s1, V.step 5 rfl⟩
      · intro L v W2 hd hn ⟨hB, hz, s0, s1, V⟩ K hK
        have e5 := V.at (zdq hd 5 rfl) rfl
        rw [if_pos (by simp [Region.wanted, yielded, e5])]
        go_wp2_with fail
        exact hK _ (.int .i64 (p : Int)) _ (by simp only [Act.put, pA, pB, pC, e5]) ⟨hB, hz, s0, s1, V.step 6 rfl⟩
      · intro L v W2 hd hn ⟨hB, hz, s0, s1, V⟩ K hK
        have e5 := V.at (zdq hd 5 rfl) rfl
        rw [if_pos (by simp [Region.wanted, yielded, e5])]
        go_wp2_with fail
        exact hK _ (.pointer (some ⟨w.heap.size + 1, 64, none⟩)) _ (by simp only [Act.put, pA, pB, pC, e5]) ⟨hB, hz, s0, s1, V.step 7 rfl⟩
      · intro L v W2 hd hn ⟨hB, hz, s0, s1, V⟩ K hK
        have e7 := V.at (zdq hd 7 rfl) rfl
        have e5 := V.at (zdq hd 5 rfl) rfl
        rw [if_pos (by simp [Region.wanted, yielded, e5])]
        refine wp_load_mid 23 _ rfl _ 64 e7 _ _ (s1.frb) Try.underlying23 rfl (by rw [zl]; exact Try.size23) ?_
        exact hK _ _ _ rfl ⟨hB, hz, s0, s1, V.step 8 rfl⟩
      · intro L v W2 hd hn ⟨hB, hz, s0, s1, V⟩ K hK
        have e6 := V.at (zdq hd 6 rfl) rfl
        have e8 := V.at (zdq hd 8 rfl) rfl
        have e5 := V.at (zdq hd 5 rfl) rfl
        rw [if_pos (by simp [Region.wanted, yielded, e5])]
        go_wp2_with (go_at_call 144; refine (HO2.out _).mono ?_; rintro e wy ⟨rfl, hy⟩)
        exact hK _ (.bool true) _ (by simp only [Act.put, pA, pB, pC, e6, e8, e5]) ⟨hB.trans (hy.mono hB.size), (Nat.le_trans hz hy.size), s0.zw hy, s1.zw hy, V.step 9 rfl⟩
      · intro L v W2 hd hn ⟨hB, hz, s0, s1, V⟩ K hK
        have e9 := V.at (zdq hd 9 rfl) rfl
        have e5 := V.at (zdq hd 5 rfl) rfl
        rw [if_pos (by simp [Region.wanted, yielded, e5])]
        go_wp2_with fail
        exact hK _ (.bool false) _ (by simp only [Act.put, pA, pB, pC, e9, e5]) ⟨hB, hz, s0, s1, V.step 10 rfl⟩
      · intro L v W2 hd hn ⟨hB, hz, s0, s1, V⟩ K hK
        have e5 := V.at (zdq hd 5 rfl) rfl
        have e10 := V.at (zdq hd 10 rfl) rfl
        rw [if_pos (by simp [Region.wanted])]
        go_wp2_with fail
        exact hK _ (.bool false) _ (by simp only [Act.put, pA, pB, pC, e5, e10]) ⟨hB, hz, s0, s1, V.step 11 rfl⟩
      · intro L v W2 hd hn ⟨hB, hz, s0, s1, V⟩ K hK
        have e11 := V.at (zdq hd 11 rfl) rfl
        rw [if_pos (by simp [Region.wanted])]
        go_wp2_with fail
        exact hK _ (.bool false) _ (by simp only [Act.put, pA, pB, pC, e11]) ⟨hB, hz, s0, s1, V.step 12 rfl⟩
      · intro L v W2 hd hn ⟨hB, hz, s0, s1, V⟩ K hK
        have e12 := V.at (zdq hd 12 rfl) rfl
        rw [if_pos (by simp [Region.wanted, yielded, e12])]
        go_wp2_with fail
        exact hK _ (.pointer (some ⟨w.heap.size + 1, 0, none⟩)) _ (by simp only [Act.put, pA, pB, pC, e12]) ⟨hB, hz, s0, s1, V.step 13 rfl⟩
      · intro L v W2 hd hn ⟨hB, hz, s0, s1, V⟩ K hK
        have e13 := V.at (zdq hd 13 rfl) rfl
        have e12 := V.at (zdq hd 12 rfl) rfl
        rw [if_pos (by simp [Region.wanted, yielded, e12])]
        refine wp_load_mid 23 _ rfl _ 0 e13 _ _ (s1.fra) Try.underlying23 rfl (by rw [zl]; exact Try.size23) ?_
        exact hK _ _ _ rfl ⟨hB, hz, s0, s1, V.step 14 rfl⟩
      · intro L v W2 hd hn ⟨hB, hz, s0, s1, V⟩ K hK
        have e14 := V.at (zdq hd 14 rfl) rfl
        have e12 := V.at (zdq hd 12 rfl) rfl
        rw [if_pos (by simp [Region.wanted, yielded, e12])]
        go_wp2_with (go_at_call 104; refine (HMO.out _).mono ?_; rintro e wy ⟨rfl, hy⟩)
        exact hK _ (.bool false) _ (by simp only [Act.put, pA, pB, pC, e14, e12]) ⟨hB.trans (hy.mono hB.size), (Nat.le_trans hz hy.size), s0.zw hy, s1.zw hy, V.step 15 rfl⟩
      · intro L v W2 hd hn ⟨hB, hz, s0, s1, V⟩ K hK
        have e15 := V.at (zdq hd 15 rfl) rfl
        have e12 := V.at (zdq hd 12 rfl) rfl
        rw [if_pos (by simp [Region.wanted, yielded, e12])]
        go_wp2_with fail
        exact hK _ (.bool true) _ (by simp only [Act.put, pA, pB, pC, e15, e12]) ⟨hB, hz, s0, s1, V.step 16 rfl⟩
      · intro L v W2 hd hn ⟨hB, hz, s0, s1, V⟩ K hK
        have e12 := V.at (zdq hd 12 rfl) rfl
        have e16 := V.at (zdq hd 16 rfl) rfl
        rw [if_pos (by simp [Region.wanted])]
        go_wp2_with fail
        exact hK _ (.bool true) _ (by simp only [Act.put, pA, pB, pC, e12, e16]) ⟨hB, hz, s0, s1, V.step 17 rfl⟩
      · intro L v W2 hd hn ⟨hB, hz, s0, s1, V⟩ K hK
        have e17 := V.at (zdq hd 17 rfl) rfl
        rw [if_pos (by simp [Region.wanted])]
        go_wp2_with fail
        exact hK _ (.bool true) _ (by simp only [Act.put, pA, pB, pC, e17]) ⟨hB, hz, s0, s1, V.step 18 rfl⟩
      · intro L v W2 hd hn ⟨hB, hz, s0, s1, V⟩ K hK
        have e18 := V.at (zdq hd 18 rfl) rfl
        rw [if_neg (by simp [Region.wanted, yielded, e18])]
        exact hK _ undef _ rfl ⟨hB, hz, s0, s1, V.step 19 rfl⟩
      · intro L v W2 hd hn ⟨hB, hz, s0, s1, V⟩ K hK
        have e19 := V.at (zdq hd 19 rfl) rfl
        have e18 := V.at (zdq hd 18 rfl) rfl
        rw [if_neg (by simp [Region.wanted, yielded, e18])]
        exact hK _ undef _ rfl ⟨hB, hz, s0, s1, V.step 20 rfl⟩
      · intro L v W2 hd hn ⟨hB, hz, s0, s1, V⟩ K hK
        have e20 := V.at (zdq hd 20 rfl) rfl
        have e18 := V.at (zdq hd 18 rfl) rfl
        rw [if_neg (by simp [Region.wanted, yielded, e18])]
        exact hK _ undef _ rfl ⟨hB, hz, s0, s1, V.step 21 rfl⟩
      · intro L v W2 hd hn ⟨hB, hz, s0, s1, V⟩ K hK
        have e21 := V.at (zdq hd 21 rfl) rfl
        have e18 := V.at (zdq hd 18 rfl) rfl
        rw [if_neg (by simp [Region.wanted, yielded, e18])]
        exact hK _ undef _ rfl ⟨hB, hz, s0, s1, V.step 22 rfl⟩
      · intro L v W2 hd hn ⟨hB, hz, s0, s1, V⟩ K hK
        have e18 := V.at (zdq hd 18 rfl) rfl
        have e22 := V.at (zdq hd 22 rfl) rfl
        rw [if_pos (by simp [Region.wanted])]
        go_wp2_with fail
        exact hK _ (.bool true) _ (by simp only [Act.put, pA, pB, pC, e18, e22]) ⟨hB, hz, s0, s1, V.step 23 rfl⟩
      · intro L v W2 hd hn ⟨hB, hz, s0, s1, V⟩ K hK
        have e23 := V.at (zdq hd 23 rfl) rfl
        rw [if_pos (by simp [Region.wanted])]
        go_wp2_with fail
        exact hK _ (.bool true) _ (by simp only [Act.put, pA, pB, pC, e23]) ⟨hB, hz, s0, s1, V.step 24 rfl⟩
      · intro L v W2 hd hn ⟨hB, hz, s0, s1, V⟩ K hK
        have e24 := V.at (zdq hd 24 rfl) rfl
        rw [if_neg (by simp [Region.wanted, yielded, e24])]
        exact hK _ undef _ rfl ⟨hB, hz, s0, s1, V.step 25 rfl⟩
      · intro L v W2 hd hn ⟨hB, hz, s0, s1, V⟩ K hK
        have e25 := V.at (zdq hd 25 rfl) rfl
        have e24 := V.at (zdq hd 24 rfl) rfl
        rw [if_neg (by simp [Region.wanted, yielded, e24])]
        exact hK _ undef _ rfl ⟨hB, hz, s0, s1, V.step 26 rfl⟩
      · intro L v W2 hd hn ⟨hB, hz, s0, s1, V⟩ K hK
        have e26 := V.at (zdq hd 26 rfl) rfl
        have e24 := V.at (zdq hd 24 rfl) rfl
        rw [if_neg (by simp [Region.wanted, yielded, e24])]
        exact hK _ undef _ rfl ⟨hB, hz, s0, s1, V.step 27 rfl⟩
      · intro L v W2 hd hn ⟨hB, hz, s0, s1, V⟩ K hK
        have e24 := V.at (zdq hd 24 rfl) rfl
        rw [if_neg (by simp [Region.wanted, yielded, e24])]
        exact hK _ undef _ rfl ⟨hB, hz, s0, s1, V.step 28 rfl⟩
      · intro L v W2 hd hn ⟨hB, hz, s0, s1, V⟩ K hK
        have e28 := V.at (zdq hd 28 rfl) rfl
        have e24 := V.at (zdq hd 24 rfl) rfl
        rw [if_neg (by simp [Region.wanted, yielded, e24])]
        exact hK _ undef _ rfl ⟨hB, hz, s0, s1, V.step 29 rfl⟩
      · intro L v W2 hd hn ⟨hB, hz, s0, s1, V⟩ K hK
        have e29 := V.at (zdq hd 29 rfl) rfl
        have e24 := V.at (zdq hd 24 rfl) rfl
        rw [if_neg (by simp [Region.wanted, yielded, e24])]
        exact hK _ undef _ rfl ⟨hB, hz, s0, s1, V.step 30 rfl⟩
      · intro L v W2 hd hn ⟨hB, hz, s0, s1, V⟩ K hK
        have e27 := V.at (zdq hd 27 rfl) rfl
        have e30 := V.at (zdq hd 30 rfl) rfl
        have e24 := V.at (zdq hd 24 rfl) rfl
        rw [if_neg (by simp [Region.wanted, yielded, e24])]
        exact hK _ undef _ rfl ⟨hB, hz, s0, s1, V.step 31 rfl⟩
      · intro L v W2 hd hn ⟨hB, hz, s0, s1, V⟩ K hK
        have e24 := V.at (zdq hd 24 rfl) rfl
        have e31 := V.at (zdq hd 31 rfl) rfl
        rw [if_pos (by simp [Region.wanted])]
        go_wp2_with fail
        exact hK _ (.bool true) _ (by simp only [Act.put, pA, pB, pC, e24, e31]) ⟨hB, hz, s0, s1, V.step 32 rfl⟩
    · intro L v W2 hL ⟨hB, hz, s0, s1, V⟩
      have e0 := V.at (hL 0 (by decide)) rfl
      have e1 := V.at (hL 1 (by decide)) rfl
      have e2 := V.at (hL 2 (by decide)) rfl
      have e3 := V.at (hL 3 (by decide)) rfl
      have e4 := V.at (hL 4 (by decide)) rfl
      have e5 := V.at (hL 5 (by decide)) rfl
      have e6 := V.at (hL 6 (by decide)) rfl
      have e7 := V.at (hL 7 (by decide)) rfl
      have e8 := V.at (hL 8 (by decide)) rfl
      have e9 := V.at (hL 9 (by decide)) rfl
      have e10 := V.at (hL 10 (by decide)) rfl
      have e11 := V.at (hL 11 (by decide)) rfl
      have e12 := V.at (hL 12 (by decide)) rfl
      have e13 := V.at (hL 13 (by decide)) rfl
      have e14 := V.at (hL 14 (by decide)) rfl
      have e15 := V.at (hL 15 (by decide)) rfl
      have e16 := V.at (hL 16 (by decide)) rfl
      have e17 := V.at (hL 17 (by decide)) rfl
      have e18 := V.at (hL 18 (by decide)) rfl
      have e19 := V.at (hL 19 (by decide)) rfl
      have e20 := V.at (hL 20 (by decide)) rfl
      have e21 := V.at (hL 21 (by decide)) rfl
      have e22 := V.at (hL 22 (by decide)) rfl
      have e23 := V.at (hL 23 (by decide)) rfl
      have e24 := V.at (hL 24 (by decide)) rfl
      have e25 := V.at (hL 25 (by decide)) rfl
      have e26 := V.at (hL 26 (by decide)) rfl
      have e27 := V.at (hL 27 (by decide)) rfl
      have e28 := V.at (hL 28 (by decide)) rfl
      have e29 := V.at (hL 29 (by decide)) rfl
      have e30 := V.at (hL 30 (by decide)) rfl
      have e31 := V.at (hL 31 (by decide)) rfl
      have e32 := V.at (hL 32 (by decide)) rfl
      clear hL V
      simp only [Exit.then, e0, e1, e2, e3, e4, e5, e6, e7, e8, e9, e10, e11, e12, e13, e14, e15, e16, e17, e18, e19, e20, e21, e22, e23, e24, e25, e26, e27, e28, e29, e30, e31, e32]
      clear e0 e1 e2 e3 e4 e5 e6 e7 e8 e9 e10 e11 e12 e13 e14 e15 e16 e17 e18 e19 e20 e21 e22 e23 e24 e25 e26 e27 e28 e29 e30 e31 e32
      replace B0 := s0
      clear s0
      replace B1 := s1
      clear s1
      replace hb := hB
      clear hB
      clear hbase hz lt_B0 lt_B1
      go_wp2_with fail
      go_ret
      exact ⟨by rw [HV.out]; rfl, hb⟩
   | true =>
    rw [ho1] at HO1
    rw [ho2] at HO2
    rw [hmo] at HMO
    by_cases h12 : deg A ≤ 12
    · by_cases hBA : deg B < deg A
      · have lA : ∀ k, k < 64 → A k < p := fun k hk => by have := okA_lt ho1 hk; omega
        have lB : ∀ k, k < 64 → B k < p := fun k hk => by have := okA_lt ho2 hk; omega
        obtain ⟨d, hm⟩ := monB_at2 hmo
        have h0 : 0 ≤ deg A := by rw [hm.1]; omega
        have HSQ := Lib.hid (fun W => l07Square_any p D B W (by omega) (by omega) lD lB (by omega))
        have HMD := Lib.hid (fun W => l01Mod_any p (addK p (prd p B B) D (-1)) A W hpr (fun k _ => addK_lt (by omega) k) lA h0)
        have HDR := Lib.hid (fun W => l01Deg_any (resP p (addK p (prd p B B) D (-1)) A) W)
        have HE := Lib.hid (show decide (deg (resP p (addK p (prd p B B) D (-1)) A) < 0) = decide (deg (resP p (sqP p D B) A) < 0) from decide_eq_decide.2 (has_same hpr lD lA h0))
        have HV := Lib.hid (fmB_v (D := D) ho1 ho2 hmo h12 hBA)
        have lt_B0 : (w.heap.size) < W1.heap.size := B0.lt
        have lt_B1 : (w.heap.size + 1) < W1.heap.size := B1.lt
        have hbase : w.heap.size ≤ W1.heap.size := hb.size
        refine wp_region_stepsG Try.mixed (by kernel_rfl) (by kernel_rfl) (fun v => by (simp only [frL, Act.put, pA, pB, pC, Nat.reduceAdd, Nat.zero_add]; exact rfl))
         (fun L v W2 => Below w.heap.size w W2 ∧ W1.heap.size ≤ W2.heap.size ∧ Blk W2 (w.heap.size) 64 23 (D) ∧ Row W2 (w.heap.size + 1) 55 (frC A B).toArray ∧ VF L v [some (.int .i64 (p : Int)), some (.pointer (some ⟨w.heap.size + 1, 0, none⟩)), some (.agg (zb 64 (A))), some (.bool true), some (.bool false), some (.bool false), some (.int .i64 (p : Int)), some (.pointer (some ⟨w.heap.size + 1, 64, none⟩)), some (.agg (zb 64 (B))), some (.bool true), some (.bool false), some (.bool false), some (.bool false), some (.pointer (some ⟨w.heap.size + 1, 0, none⟩)), some (.agg (zb 64 (A))), some (.bool true), some (.bool false), some (.bool false), some (.bool false), some (.pointer (some ⟨w.heap.size + 1, 0, none⟩)), some (.agg (zb 64 (A))), some (.int .i64 (deg A)), some (.bool false), some (.bool false), some (.bool false), some (.pointer (some ⟨w.heap.size + 1, 64, none⟩)), some (.agg (zb 64 (B))), some (.int .i64 (deg B)), some (.pointer (some ⟨w.heap.size + 1, 0, none⟩)), some (.agg (zb 64 (A))), some (.int .i64 (deg A)), some (.bool false), some (.bool false)]) ?_ ?_ ?_
        · intro v hv0
          exact ⟨hb.drew, Nat.le_refl _, B0.drew, B1.drew, VF.start⟩
        · refine (.cons ?_ (.cons ?_ (.cons ?_ (.cons ?_ (.cons ?_ (.cons ?_ (.cons ?_ (.cons ?_ (.cons ?_ (.cons ?_ (.cons ?_ (.cons ?_ (.cons ?_ (.cons ?_ (.cons ?_ (.cons ?_ (.cons ?_ (.cons ?_ (.cons ?_ (.cons ?_ (.cons ?_ (.cons ?_ (.cons ?_ (.cons ?_ (.cons ?_ (.cons ?_ (.cons ?_ (.cons ?_ (.cons ?_ (.cons ?_ (.cons ?_ (.cons ?_ (.cons ?_ (.nil _))))))))))))))))))))))))))))))))))
          · intro L v W2 hd hn ⟨hB, hz, s0, s1, V⟩ K hK
            rw [if_pos (by simp [Region.wanted])]
            go_wp2_with fail
            exact hK _ (.int .i64 (p : Int)) _ (by simp only [Act.put, pA, pB, pC ]) ⟨hB, hz, s0, s1, V.step 0 rfl⟩
          · intro L v W2 hd hn ⟨hB, hz, s0, s1, V⟩ K hK
            rw [if_pos (by simp [Region.wanted])]
            go_wp2_with fail
            exact hK _ (.pointer (some ⟨w.heap.size + 1, 0, none⟩)) _ (by simp only [Act.put, pA, pB, pC ]) ⟨hB, hz, s0, s1, V.step 1 rfl⟩
          · intro L v W2 hd hn ⟨hB, hz, s0, s1, V⟩ K hK
            have e1 := V.at (zdq hd 1 rfl) rfl
            rw [if_pos (by simp [Region.wanted])]
            refine wp_load_mid 23 _ rfl _ 0 e1 _ _ (s1.fra) Try.underlying23 rfl (by rw [zl]; exact Try.size23) ?_
            exact hK _ _ _ rfl ⟨hB, hz, s0, s1, V.step 2 rfl⟩
          · intro L v W2 hd hn ⟨hB, hz, s0, s1, V⟩ K hK
            have e0 := V.at (zdq hd 0 rfl) rfl
            have e2 := V.at (zdq hd 2 rfl) rfl
            rw [if_pos (by simp [Region.wanted])]
            go_wp2_with (go_at_call 144; refine (HO1.out _).mono ?_; rintro e wy ⟨rfl, hy⟩)
            exact hK _ (.bool true) _ (by simp only [Act.put, pA, pB, pC, e0, e2]) ⟨hB.trans (hy.mono hB.size), (Nat.le_trans hz hy.size), s0.zw hy, s1.zw hy, V.step 3 rfl⟩
          · intro L v W2 hd hn ⟨hB, hz, s0, s1, V⟩ K hK
            have e3 := V.at (zdq hd 3 rfl) rfl
            rw [if_pos (by simp [Region.wanted])]
            go_wp2_with fail
            exact hK _ (.bool false) _ (by simp only [Act.put, pA, pB, pC, e3]) ⟨hB, hz, s0, s1, V.step 4 rfl⟩
          · intro L v W2 hd hn ⟨hB, hz, s0, s1, V⟩ K hK
            have e4 := V.at (zdq hd 4 rfl) rfl
            rw [if_pos (by simp [Region.wanted])]
            go_wp2_with fail
            exact hK _ (.bool false) _ (by simp only [Act.put, pA, pB, pC, e4]) ⟨hB, hz, s0, s1, V.step 5 rfl⟩
          · intro L v W2 hd hn ⟨hB, hz, s0, s1, V⟩ K hK
            have e5 := V.at (zdq hd 5 rfl) rfl
            rw [if_pos (by simp [Region.wanted, yielded, e5])]
            go_wp2_with fail
            exact hK _ (.int .i64 (p : Int)) _ (by simp only [Act.put, pA, pB, pC, e5]) ⟨hB, hz, s0, s1, V.step 6 rfl⟩
          · intro L v W2 hd hn ⟨hB, hz, s0, s1, V⟩ K hK
            have e5 := V.at (zdq hd 5 rfl) rfl
            rw [if_pos (by simp [Region.wanted, yielded, e5])]
            go_wp2_with fail
            exact hK _ (.pointer (some ⟨w.heap.size + 1, 64, none⟩)) _ (by simp only [Act.put, pA, pB, pC, e5]) ⟨hB, hz, s0, s1, V.step 7 rfl⟩
          · intro L v W2 hd hn ⟨hB, hz, s0, s1, V⟩ K hK
            have e7 := V.at (zdq hd 7 rfl) rfl
            have e5 := V.at (zdq hd 5 rfl) rfl
            rw [if_pos (by simp [Region.wanted, yielded, e5])]
            refine wp_load_mid 23 _ rfl _ 64 e7 _ _ (s1.frb) Try.underlying23 rfl (by rw [zl]; exact Try.size23) ?_
            exact hK _ _ _ rfl ⟨hB, hz, s0, s1, V.step 8 rfl⟩
          · intro L v W2 hd hn ⟨hB, hz, s0, s1, V⟩ K hK
            have e6 := V.at (zdq hd 6 rfl) rfl
            have e8 := V.at (zdq hd 8 rfl) rfl
            have e5 := V.at (zdq hd 5 rfl) rfl
            rw [if_pos (by simp [Region.wanted, yielded, e5])]
            go_wp2_with (go_at_call 144; refine (HO2.out _).mono ?_; rintro e wy ⟨rfl, hy⟩)
            exact hK _ (.bool true) _ (by simp only [Act.put, pA, pB, pC, e6, e8, e5]) ⟨hB.trans (hy.mono hB.size), (Nat.le_trans hz hy.size), s0.zw hy, s1.zw hy, V.step 9 rfl⟩
          · intro L v W2 hd hn ⟨hB, hz, s0, s1, V⟩ K hK
            have e9 := V.at (zdq hd 9 rfl) rfl
            have e5 := V.at (zdq hd 5 rfl) rfl
            rw [if_pos (by simp [Region.wanted, yielded, e5])]
            go_wp2_with fail
            exact hK _ (.bool false) _ (by simp only [Act.put, pA, pB, pC, e9, e5]) ⟨hB, hz, s0, s1, V.step 10 rfl⟩
          · intro L v W2 hd hn ⟨hB, hz, s0, s1, V⟩ K hK
            have e5 := V.at (zdq hd 5 rfl) rfl
            have e10 := V.at (zdq hd 10 rfl) rfl
            rw [if_pos (by simp [Region.wanted])]
            go_wp2_with fail
            exact hK _ (.bool false) _ (by simp only [Act.put, pA, pB, pC, e5, e10]) ⟨hB, hz, s0, s1, V.step 11 rfl⟩
          · intro L v W2 hd hn ⟨hB, hz, s0, s1, V⟩ K hK
            have e11 := V.at (zdq hd 11 rfl) rfl
            rw [if_pos (by simp [Region.wanted])]
            go_wp2_with fail
            exact hK _ (.bool false) _ (by simp only [Act.put, pA, pB, pC, e11]) ⟨hB, hz, s0, s1, V.step 12 rfl⟩
          · intro L v W2 hd hn ⟨hB, hz, s0, s1, V⟩ K hK
            have e12 := V.at (zdq hd 12 rfl) rfl
            rw [if_pos (by simp [Region.wanted, yielded, e12])]
            go_wp2_with fail
            exact hK _ (.pointer (some ⟨w.heap.size + 1, 0, none⟩)) _ (by simp only [Act.put, pA, pB, pC, e12]) ⟨hB, hz, s0, s1, V.step 13 rfl⟩
          · intro L v W2 hd hn ⟨hB, hz, s0, s1, V⟩ K hK
            have e13 := V.at (zdq hd 13 rfl) rfl
            have e12 := V.at (zdq hd 12 rfl) rfl
            rw [if_pos (by simp [Region.wanted, yielded, e12])]
            refine wp_load_mid 23 _ rfl _ 0 e13 _ _ (s1.fra) Try.underlying23 rfl (by rw [zl]; exact Try.size23) ?_
            exact hK _ _ _ rfl ⟨hB, hz, s0, s1, V.step 14 rfl⟩
          · intro L v W2 hd hn ⟨hB, hz, s0, s1, V⟩ K hK
            have e14 := V.at (zdq hd 14 rfl) rfl
            have e12 := V.at (zdq hd 12 rfl) rfl
            rw [if_pos (by simp [Region.wanted, yielded, e12])]
            go_wp2_with (go_at_call 104; refine (HMO.out _).mono ?_; rintro e wy ⟨rfl, hy⟩)
            exact hK _ (.bool true) _ (by simp only [Act.put, pA, pB, pC, e14, e12]) ⟨hB.trans (hy.mono hB.size), (Nat.le_trans hz hy.size), s0.zw hy, s1.zw hy, V.step 15 rfl⟩
          · intro L v W2 hd hn ⟨hB, hz, s0, s1, V⟩ K hK
            have e15 := V.at (zdq hd 15 rfl) rfl
            have e12 := V.at (zdq hd 12 rfl) rfl
            rw [if_pos (by simp [Region.wanted, yielded, e12])]
            go_wp2_with fail
            exact hK _ (.bool false) _ (by simp only [Act.put, pA, pB, pC, e15, e12]) ⟨hB, hz, s0, s1, V.step 16 rfl⟩
          · intro L v W2 hd hn ⟨hB, hz, s0, s1, V⟩ K hK
            have e12 := V.at (zdq hd 12 rfl) rfl
            have e16 := V.at (zdq hd 16 rfl) rfl
            rw [if_pos (by simp [Region.wanted])]
            go_wp2_with fail
            exact hK _ (.bool false) _ (by simp only [Act.put, pA, pB, pC, e12, e16]) ⟨hB, hz, s0, s1, V.step 17 rfl⟩
          · intro L v W2 hd hn ⟨hB, hz, s0, s1, V⟩ K hK
            have e17 := V.at (zdq hd 17 rfl) rfl
            rw [if_pos (by simp [Region.wanted])]
            go_wp2_with fail
            exact hK _ (.bool false) _ (by simp only [Act.put, pA, pB, pC, e17]) ⟨hB, hz, s0, s1, V.step 18 rfl⟩
          · intro L v W2 hd hn ⟨hB, hz, s0, s1, V⟩ K hK
            have e18 := V.at (zdq hd 18 rfl) rfl
            rw [if_pos (by simp [Region.wanted, yielded, e18])]
            go_wp2_with fail
            exact hK _ (.pointer (some ⟨w.heap.size + 1, 0, none⟩)) _ (by simp only [Act.put, pA, pB, pC, e18]) ⟨hB, hz, s0, s1, V.step 19 rfl⟩
          · intro L v W2 hd hn ⟨hB, hz, s0, s1, V⟩ K hK
            have e19 := V.at (zdq hd 19 rfl) rfl
            have e18 := V.at (zdq hd 18 rfl) rfl
            rw [if_pos (by simp [Region.wanted, yielded, e18])]
            refine wp_load_mid 23 _ rfl _ 0 e19 _ _ (s1.fra) Try.underlying23 rfl (by rw [zl]; exact Try.size23) ?_
            exact hK _ _ _ rfl ⟨hB, hz, s0, s1, V.step 20 rfl⟩
          · intro L v W2 hd hn ⟨hB, hz, s0, s1, V⟩ K hK
            have e20 := V.at (zdq hd 20 rfl) rfl
            have e18 := V.at (zdq hd 18 rfl) rfl
            rw [if_pos (by simp [Region.wanted, yielded, e18])]
            go_wp2_with (go_at_call 88; refine (HDA.out _).mono ?_; rintro e wy ⟨rfl, hy⟩)
            exact hK _ (.int .i64 (deg A)) _ (by simp only [Act.put, pA, pB, pC, e20, e18]) ⟨hB.trans (hy.mono hB.size), (Nat.le_trans hz hy.size), s0.zw hy, s1.zw hy, V.step 21 rfl⟩
          · intro L v W2 hd hn ⟨hB, hz, s0, s1, V⟩ K hK
            have e21 := V.at (zdq hd 21 rfl) rfl
            have e18 := V.at (zdq hd 18 rfl) rfl
            rw [if_pos (by simp [Region.wanted, yielded, e18])]
            go_wp2_with fail
            try rw [show decide ((12 : Int) < deg A) = false by simp; omega]
            try rw [show decide (deg A > (12 : Int)) = false by simp; omega]
            exact hK _ (.bool false) _ (by simp only [Act.put, pA, pB, pC, e21, e18]) ⟨hB, hz, s0, s1, V.step 22 rfl⟩
          · intro L v W2 hd hn ⟨hB, hz, s0, s1, V⟩ K hK
            have e18 := V.at (zdq hd 18 rfl) rfl
            have e22 := V.at (zdq hd 22 rfl) rfl
            rw [if_pos (by simp [Region.wanted])]
            go_wp2_with fail
            exact hK _ (.bool false) _ (by simp only [Act.put, pA, pB, pC, e18, e22]) ⟨hB, hz, s0, s1, V.step 23 rfl⟩
          · intro L v W2 hd hn ⟨hB, hz, s0, s1, V⟩ K hK
            have e23 := V.at (zdq hd 23 rfl) rfl
            rw [if_pos (by simp [Region.wanted])]
            go_wp2_with fail
            exact hK _ (.bool false) _ (by simp only [Act.put, pA, pB, pC, e23]) ⟨hB, hz, s0, s1, V.step 24 rfl⟩
          · intro L v W2 hd hn ⟨hB, hz, s0, s1, V⟩ K hK
            have e24 := V.at (zdq hd 24 rfl) rfl
            rw [if_pos (by simp [Region.wanted, yielded, e24])]
            go_wp2_with fail
            exact hK _ (.pointer (some ⟨w.heap.size + 1, 64, none⟩)) _ (by simp only [Act.put, pA, pB, pC, e24]) ⟨hB, hz, s0, s1, V.step 25 rfl⟩
          · intro L v W2 hd hn ⟨hB, hz, s0, s1, V⟩ K hK
            have e25 := V.at (zdq hd 25 rfl) rfl
            have e24 := V.at (zdq hd 24 rfl) rfl
            rw [if_pos (by simp [Region.wanted, yielded, e24])]
            refine wp_load_mid 23 _ rfl _ 64 e25 _ _ (s1.frb) Try.underlying23 rfl (by rw [zl]; exact Try.size23) ?_
            exact hK _ _ _ rfl ⟨hB, hz, s0, s1, V.step 26 rfl⟩
          · intro L v W2 hd hn ⟨hB, hz, s0, s1, V⟩ K hK
            have e26 := V.at (zdq hd 26 rfl) rfl
            have e24 := V.at (zdq hd 24 rfl) rfl
            rw [if_pos (by simp [Region.wanted, yielded, e24])]
            go_wp2_with (go_at_call 88; refine (HDB.out _).mono ?_; rintro e wy ⟨rfl, hy⟩)
            exact hK _ (.int .i64 (deg B)) _ (by simp only [Act.put, pA, pB, pC, e26, e24]) ⟨hB.trans (hy.mono hB.size), (Nat.le_trans hz hy.size), s0.zw hy, s1.zw hy, V.step 27 rfl⟩
          · intro L v W2 hd hn ⟨hB, hz, s0, s1, V⟩ K hK
            have e24 := V.at (zdq hd 24 rfl) rfl
            rw [if_pos (by simp [Region.wanted, yielded, e24])]
            go_wp2_with fail
            exact hK _ (.pointer (some ⟨w.heap.size + 1, 0, none⟩)) _ (by simp only [Act.put, pA, pB, pC, e24]) ⟨hB, hz, s0, s1, V.step 28 rfl⟩
          · intro L v W2 hd hn ⟨hB, hz, s0, s1, V⟩ K hK
            have e28 := V.at (zdq hd 28 rfl) rfl
            have e24 := V.at (zdq hd 24 rfl) rfl
            rw [if_pos (by simp [Region.wanted, yielded, e24])]
            refine wp_load_mid 23 _ rfl _ 0 e28 _ _ (s1.fra) Try.underlying23 rfl (by rw [zl]; exact Try.size23) ?_
            exact hK _ _ _ rfl ⟨hB, hz, s0, s1, V.step 29 rfl⟩
          · intro L v W2 hd hn ⟨hB, hz, s0, s1, V⟩ K hK
            have e29 := V.at (zdq hd 29 rfl) rfl
            have e24 := V.at (zdq hd 24 rfl) rfl
            rw [if_pos (by simp [Region.wanted, yielded, e24])]
            go_wp2_with (go_at_call 88; refine (HDA.out _).mono ?_; rintro e wy ⟨rfl, hy⟩)
            exact hK _ (.int .i64 (deg A)) _ (by simp only [Act.put, pA, pB, pC, e29, e24]) ⟨hB.trans (hy.mono hB.size), (Nat.le_trans hz hy.size), s0.zw hy, s1.zw hy, V.step 30 rfl⟩
          · intro L v W2 hd hn ⟨hB, hz, s0, s1, V⟩ K hK
            have e27 := V.at (zdq hd 27 rfl) rfl
            have e30 := V.at (zdq hd 30 rfl) rfl
            have e24 := V.at (zdq hd 24 rfl) rfl
            rw [if_pos (by simp [Region.wanted, yielded, e24])]
            go_wp2_with fail
            try rw [show decide (deg A ≤ deg B) = false by simp; omega]
            try rw [show decide (deg B ≥ deg A) = false by simp; omega]
            exact hK _ (.bool false) _ (by simp only [Act.put, pA, pB, pC, e27, e30, e24]) ⟨hB, hz, s0, s1, V.step 31 rfl⟩
          · intro L v W2 hd hn ⟨hB, hz, s0, s1, V⟩ K hK
            have e24 := V.at (zdq hd 24 rfl) rfl
            have e31 := V.at (zdq hd 31 rfl) rfl
            rw [if_pos (by simp [Region.wanted])]
            go_wp2_with fail
            exact hK _ (.bool false) _ (by simp only [Act.put, pA, pB, pC, e24, e31]) ⟨hB, hz, s0, s1, V.step 32 rfl⟩
        · intro L v W2 hL ⟨hB, hz, s0, s1, V⟩
          have e0 := V.at (hL 0 (by decide)) rfl
          have e1 := V.at (hL 1 (by decide)) rfl
          have e2 := V.at (hL 2 (by decide)) rfl
          have e3 := V.at (hL 3 (by decide)) rfl
          have e4 := V.at (hL 4 (by decide)) rfl
          have e5 := V.at (hL 5 (by decide)) rfl
          have e6 := V.at (hL 6 (by decide)) rfl
          have e7 := V.at (hL 7 (by decide)) rfl
          have e8 := V.at (hL 8 (by decide)) rfl
          have e9 := V.at (hL 9 (by decide)) rfl
          have e10 := V.at (hL 10 (by decide)) rfl
          have e11 := V.at (hL 11 (by decide)) rfl
          have e12 := V.at (hL 12 (by decide)) rfl
          have e13 := V.at (hL 13 (by decide)) rfl
          have e14 := V.at (hL 14 (by decide)) rfl
          have e15 := V.at (hL 15 (by decide)) rfl
          have e16 := V.at (hL 16 (by decide)) rfl
          have e17 := V.at (hL 17 (by decide)) rfl
          have e18 := V.at (hL 18 (by decide)) rfl
          have e19 := V.at (hL 19 (by decide)) rfl
          have e20 := V.at (hL 20 (by decide)) rfl
          have e21 := V.at (hL 21 (by decide)) rfl
          have e22 := V.at (hL 22 (by decide)) rfl
          have e23 := V.at (hL 23 (by decide)) rfl
          have e24 := V.at (hL 24 (by decide)) rfl
          have e25 := V.at (hL 25 (by decide)) rfl
          have e26 := V.at (hL 26 (by decide)) rfl
          have e27 := V.at (hL 27 (by decide)) rfl
          have e28 := V.at (hL 28 (by decide)) rfl
          have e29 := V.at (hL 29 (by decide)) rfl
          have e30 := V.at (hL 30 (by decide)) rfl
          have e31 := V.at (hL 31 (by decide)) rfl
          have e32 := V.at (hL 32 (by decide)) rfl
          clear hL V
          simp only [Exit.then, e0, e1, e2, e3, e4, e5, e6, e7, e8, e9, e10, e11, e12, e13, e14, e15, e16, e17, e18, e19, e20, e21, e22, e23, e24, e25, e26, e27, e28, e29, e30, e31, e32]
          clear e0 e1 e2 e3 e4 e5 e6 e7 e8 e9 e10 e11 e12 e13 e14 e15 e16 e17 e18 e19 e20 e21 e22 e23 e24 e25 e26 e27 e28 e29 e30 e31 e32
          replace B0 := s0
          clear s0
          replace B1 := s1
          clear s1
          replace hb := hB
          clear hB
          clear hbase hz lt_B0 lt_B1
          go_upto_region 3 with (fail)
          refine zq Try.mixed (by kernel_rfl) (by kernel_rfl) (fun v => by (simp only [frL, Act.put, pA, pB, pC, Nat.reduceAdd, Nat.zero_add]; exact rfl))
           (fun L v W3 => Below W2.heap.size W2 W3 ∧ VF L v [some (.int .i64 (p : Int)), some (.int .i64 (p : Int)), some (.agg (zb 64 (D))), some (.pointer (some ⟨w.heap.size + 1, 64, none⟩)), some (.agg (zb 64 (B))), some (.agg (zb 64 (addK p (prd p B B) D (-1)))), some (.pointer (some ⟨w.heap.size + 1, 0, none⟩)), some (.agg (zb 64 (A))), some (.agg (zb 64 (resP p (addK p (prd p B B) D (-1)) A))), some (.int .i64 (deg (resP p (addK p (prd p B B) D (-1)) A))), some (.bool (decide (deg (resP p (addK p (prd p B B) D (-1)) A) < 0))), some (.bool (decide (deg (resP p (addK p (prd p B B) D (-1)) A) < 0)))]) ?_ ?_ ?_
          · intro v hv0
            exact ⟨(Below.refl _ W2).drew, VF.start⟩
          · refine (.cons rfl ?_ (.cons rfl ?_ (.cons rfl ?_ (.cons rfl ?_ (.cons rfl ?_ (.cons rfl ?_ (.cons rfl ?_ (.cons rfl ?_ (.cons rfl ?_ (.cons rfl ?_ (.cons rfl ?_ (.cons rfl ?_ (.nil _)))))))))))))
            all_goals intro L v W3 hd hn ⟨hY, V⟩ K hK
            · go_wp2_with fail
              exact hK _ (.int .i64 (p : Int)) _ (by simp only [Act.put, pA, pB, pC ]) ⟨hY, V.step 0 rfl⟩
            · go_wp2_with fail
              exact hK _ (.int .i64 (p : Int)) _ (by simp only [Act.put, pA, pB, pC ]) ⟨hY, V.step 1 rfl⟩
            · refine zlc (B0.zw hY) Try.underlying23 Try.size23 ?_
              exact hK _ _ _ rfl ⟨hY, V.step 2 rfl⟩
            · go_wp2_with fail
              exact hK _ (.pointer (some ⟨w.heap.size + 1, 64, none⟩)) _ (by simp only [Act.put, pA, pB, pC ]) ⟨hY, V.step 3 rfl⟩
            · have e3 := V.at (zdq hd 3 rfl) rfl
              refine wp_load_mid 23 _ rfl _ 64 e3 _ _ ((B1.zw hY).frb) Try.underlying23 rfl (by rw [zl]; exact Try.size23) ?_
              exact hK _ _ _ rfl ⟨hY, V.step 4 rfl⟩
            · have e1 := V.at (zdq hd 1 rfl) rfl
              have e2 := V.at (zdq hd 2 rfl) rfl
              have e4 := V.at (zdq hd 4 rfl) rfl
              go_wp2_with (go_at_call 163; refine (HSQ.out _).mono ?_; rintro e wy ⟨rfl, hy⟩)
              exact hK _ (.agg (zb 64 (addK p (prd p B B) D (-1)))) _ (by simp only [Act.put, pA, pB, pC, e1, e2, e4]) ⟨hY.trans (hy.mono hY.size), V.step 5 rfl⟩
            · go_wp2_with fail
              exact hK _ (.pointer (some ⟨w.heap.size + 1, 0, none⟩)) _ (by simp only [Act.put, pA, pB, pC ]) ⟨hY, V.step 6 rfl⟩
            · have e6 := V.at (zdq hd 6 rfl) rfl
              refine wp_load_mid 23 _ rfl _ 0 e6 _ _ ((B1.zw hY).fra) Try.underlying23 rfl (by rw [zl]; exact Try.size23) ?_
              exact hK _ _ _ rfl ⟨hY, V.step 7 rfl⟩
            · have e0 := V.at (zdq hd 0 rfl) rfl
              have e5 := V.at (zdq hd 5 rfl) rfl
              have e7 := V.at (zdq hd 7 rfl) rfl
              go_wp2_with (go_at_call 146; refine (HMD.out _).mono ?_; rintro e wy ⟨rfl, hy⟩)
              exact hK _ (.agg (zb 64 (resP p (addK p (prd p B B) D (-1)) A))) _ (by simp only [Act.put, pA, pB, pC, e0, e5, e7]) ⟨hY.trans (hy.mono hY.size), V.step 8 rfl⟩
            · have e8 := V.at (zdq hd 8 rfl) rfl
              go_wp2_with (go_at_call 88; refine (HDR.out _).mono ?_; rintro e wy ⟨rfl, hy⟩)
              exact hK _ (.int .i64 (deg (resP p (addK p (prd p B B) D (-1)) A))) _ (by simp only [Act.put, pA, pB, pC, e8]) ⟨hY.trans (hy.mono hY.size), V.step 9 rfl⟩
            · have e9 := V.at (zdq hd 9 rfl) rfl
              go_wp2_with fail
              exact hK _ (.bool (decide (deg (resP p (addK p (prd p B B) D (-1)) A) < 0))) _ (by simp only [Act.put, pA, pB, pC, e9]) ⟨hY, V.step 10 rfl⟩
            · have e10 := V.at (zdq hd 10 rfl) rfl
              go_wp2_with fail
              exact hK _ (.bool (decide (deg (resP p (addK p (prd p B B) D (-1)) A) < 0))) _ (by simp only [Act.put, pA, pB, pC, e10]) ⟨hY, V.step 11 rfl⟩
          · intro L v W3 hL ⟨hY, V⟩
            have e0 := V.at (hL 0 (by decide)) rfl
            have e1 := V.at (hL 1 (by decide)) rfl
            have e2 := V.at (hL 2 (by decide)) rfl
            have e3 := V.at (hL 3 (by decide)) rfl
            have e4 := V.at (hL 4 (by decide)) rfl
            have e5 := V.at (hL 5 (by decide)) rfl
            have e6 := V.at (hL 6 (by decide)) rfl
            have e7 := V.at (hL 7 (by decide)) rfl
            have e8 := V.at (hL 8 (by decide)) rfl
            have e9 := V.at (hL 9 (by decide)) rfl
            have e10 := V.at (hL 10 (by decide)) rfl
            have e11 := V.at (hL 11 (by decide)) rfl
            clear hL V
            replace B0 := B0.zw hY
            replace B1 := B1.zw hY
            replace hb := hb.trans (hY.mono hb.size)
            clear hY
            simp only [Exit.then, e0, e1, e2, e3, e4, e5, e6, e7, e8, e9, e10, e11]
            clear e0 e1 e2 e3 e4 e5 e6 e7 e8 e9 e10 e11
            go_wp2_with fail
            go_ret
            exact ⟨by rw [HV.out, ← HE.out]; rfl, hb⟩
      · skip
        have HV := Lib.hid (fmB_5 (p := (p : Int)) (D := D) hBA)
        have lt_B0 : (w.heap.size) < W1.heap.size := B0.lt
        have lt_B1 : (w.heap.size + 1) < W1.heap.size := B1.lt
        have hbase : w.heap.size ≤ W1.heap.size := hb.size
        refine wp_region_stepsG Try.mixed (by kernel_rfl) (by kernel_rfl) (fun v => by (simp only [frL, Act.put, pA, pB, pC, Nat.reduceAdd, Nat.zero_add]; exact rfl))
         (fun L v W2 => Below w.heap.size w W2 ∧ W1.heap.size ≤ W2.heap.size ∧ Blk W2 (w.heap.size) 64 23 (D) ∧ Row W2 (w.heap.size + 1) 55 (frC A B).toArray ∧ VF L v [some (.int .i64 (p : Int)), some (.pointer (some ⟨w.heap.size + 1, 0, none⟩)), some (.agg (zb 64 (A))), some (.bool true), some (.bool false), some (.bool false), some (.int .i64 (p : Int)), some (.pointer (some ⟨w.heap.size + 1, 64, none⟩)), some (.agg (zb 64 (B))), some (.bool true), some (.bool false), some (.bool false), some (.bool false), some (.pointer (some ⟨w.heap.size + 1, 0, none⟩)), some (.agg (zb 64 (A))), some (.bool true), some (.bool false), some (.bool false), some (.bool false), some (.pointer (some ⟨w.heap.size + 1, 0, none⟩)), some (.agg (zb 64 (A))), some (.int .i64 (deg A)), some (.bool false), some (.bool false), some (.bool false), some (.pointer (some ⟨w.heap.size + 1, 64, none⟩)), some (.agg (zb 64 (B))), some (.int .i64 (deg B)), some (.pointer (some ⟨w.heap.size + 1, 0, none⟩)), some (.agg (zb 64 (A))), some (.int .i64 (deg A)), some (.bool true), some (.bool true)]) ?_ ?_ ?_
        · intro v hv0
          exact ⟨hb.drew, Nat.le_refl _, B0.drew, B1.drew, VF.start⟩
        · refine (.cons ?_ (.cons ?_ (.cons ?_ (.cons ?_ (.cons ?_ (.cons ?_ (.cons ?_ (.cons ?_ (.cons ?_ (.cons ?_ (.cons ?_ (.cons ?_ (.cons ?_ (.cons ?_ (.cons ?_ (.cons ?_ (.cons ?_ (.cons ?_ (.cons ?_ (.cons ?_ (.cons ?_ (.cons ?_ (.cons ?_ (.cons ?_ (.cons ?_ (.cons ?_ (.cons ?_ (.cons ?_ (.cons ?_ (.cons ?_ (.cons ?_ (.cons ?_ (.cons ?_ (.nil _))))))))))))))))))))))))))))))))))
          · intro L v W2 hd hn ⟨hB, hz, s0, s1, V⟩ K hK
            rw [if_pos (by simp [Region.wanted])]
            go_wp2_with fail
            exact hK _ (.int .i64 (p : Int)) _ (by simp only [Act.put, pA, pB, pC ]) ⟨hB, hz, s0, s1, V.step 0 rfl⟩
          · intro L v W2 hd hn ⟨hB, hz, s0, s1, V⟩ K hK
            rw [if_pos (by simp [Region.wanted])]
            go_wp2_with fail
            exact hK _ (.pointer (some ⟨w.heap.size + 1, 0, none⟩)) _ (by simp only [Act.put, pA, pB, pC ]) ⟨hB, hz, s0, s1, V.step 1 rfl⟩
          · intro L v W2 hd hn ⟨hB, hz, s0, s1, V⟩ K hK
            have e1 := V.at (zdq hd 1 rfl) rfl
            rw [if_pos (by simp [Region.wanted])]
            refine wp_load_mid 23 _ rfl _ 0 e1 _ _ (s1.fra) Try.underlying23 rfl (by rw [zl]; exact Try.size23) ?_
            exact hK _ _ _ rfl ⟨hB, hz, s0, s1, V.step 2 rfl⟩
          · intro L v W2 hd hn ⟨hB, hz, s0, s1, V⟩ K hK
            have e0 := V.at (zdq hd 0 rfl) rfl
            have e2 := V.at (zdq hd 2 rfl) rfl
            rw [if_pos (by simp [Region.wanted])]
            go_wp2_with (go_at_call 144; refine (HO1.out _).mono ?_; rintro e wy ⟨rfl, hy⟩)
            exact hK _ (.bool true) _ (by simp only [Act.put, pA, pB, pC, e0, e2]) ⟨hB.trans (hy.mono hB.size), (Nat.le_trans hz hy.size), s0.zw hy, s1.zw hy, V.step 3 rfl⟩
          · intro L v W2 hd hn ⟨hB, hz, s0, s1, V⟩ K hK
            have e3 := V.at (zdq hd 3 rfl) rfl
            rw [if_pos (by simp [Region.wanted])]
            go_wp2_with fail
            exact hK _ (.bool false) _ (by simp only [Act.put, pA, pB, pC, e3]) ⟨hB, hz, s0, s1, V.step 4 rfl⟩
          · intro L v W2 hd hn ⟨hB, hz, s0, s1, V⟩ K hK
            have e4 := V.at (zdq hd 4 rfl) rfl
            rw [if_pos (by simp [Region.wanted])]
            go_wp2_with fail
            exact hK _ (.bool false) _ (by simp only [Act.put, pA, pB, pC, e4]) ⟨hB, hz, s0, s1, V.step 5 rfl⟩
          · intro L v W2 hd hn ⟨hB, hz, s0, s1, V⟩ K hK
            have e5 := V.at (zdq hd 5 rfl) rfl
            rw [if_pos (by simp [Region.wanted, yielded, e5])]
            go_wp2_with fail
            exact hK _ (.int .i64 (p : Int)) _ (by simp only [Act.put, pA, pB, pC, e5]) ⟨hB, hz, s0, s1, V.step 6 rfl⟩
          · intro L v W2 hd hn ⟨hB, hz, s0, s1, V⟩ K hK
            have e5 := V.at (zdq hd 5 rfl) rfl
            rw [if_pos (by simp [Region.wanted, yielded, e5])]
            go_wp2_with fail
            exact hK _ (.pointer (some ⟨w.heap.size + 1, 64, none⟩)) _ (by simp only [Act.put, pA, pB, pC, e5]) ⟨hB, hz, s0, s1, V.step 7 rfl⟩
          · intro L v W2 hd hn ⟨hB, hz, s0, s1, V⟩ K hK
            have e7 := V.at (zdq hd 7 rfl) rfl
            have e5 := V.at (zdq hd 5 rfl) rfl
            rw [if_pos (by simp [Region.wanted, yielded, e5])]
            refine wp_load_mid 23 _ rfl _ 64 e7 _ _ (s1.frb) Try.underlying23 rfl (by rw [zl]; exact Try.size23) ?_
            exact hK _ _ _ rfl ⟨hB, hz, s0, s1, V.step 8 rfl⟩
          · intro L v W2 hd hn ⟨hB, hz, s0, s1, V⟩ K hK
            have e6 := V.at (zdq hd 6 rfl) rfl
            have e8 := V.at (zdq hd 8 rfl) rfl
            have e5 := V.at (zdq hd 5 rfl) rfl
            rw [if_pos (by simp [Region.wanted, yielded, e5])]
            go_wp2_with (go_at_call 144; refine (HO2.out _).mono ?_; rintro e wy ⟨rfl, hy⟩)
            exact hK _ (.bool true) _ (by simp only [Act.put, pA, pB, pC, e6, e8, e5]) ⟨hB.trans (hy.mono hB.size), (Nat.le_trans hz hy.size), s0.zw hy, s1.zw hy, V.step 9 rfl⟩
          · intro L v W2 hd hn ⟨hB, hz, s0, s1, V⟩ K hK
            have e9 := V.at (zdq hd 9 rfl) rfl
            have e5 := V.at (zdq hd 5 rfl) rfl
            rw [if_pos (by simp [Region.wanted, yielded, e5])]
            go_wp2_with fail
            exact hK _ (.bool false) _ (by simp only [Act.put, pA, pB, pC, e9, e5]) ⟨hB, hz, s0, s1, V.step 10 rfl⟩
          · intro L v W2 hd hn ⟨hB, hz, s0, s1, V⟩ K hK
            have e5 := V.at (zdq hd 5 rfl) rfl
            have e10 := V.at (zdq hd 10 rfl) rfl
            rw [if_pos (by simp [Region.wanted])]
            go_wp2_with fail
            exact hK _ (.bool false) _ (by simp only [Act.put, pA, pB, pC, e5, e10]) ⟨hB, hz, s0, s1, V.step 11 rfl⟩
          · intro L v W2 hd hn ⟨hB, hz, s0, s1, V⟩ K hK
            have e11 := V.at (zdq hd 11 rfl) rfl
            rw [if_pos (by simp [Region.wanted])]
            go_wp2_with fail
            exact hK _ (.bool false) _ (by simp only [Act.put, pA, pB, pC, e11]) ⟨hB, hz, s0, s1, V.step 12 rfl⟩
          · intro L v W2 hd hn ⟨hB, hz, s0, s1, V⟩ K hK
            have e12 := V.at (zdq hd 12 rfl) rfl
            rw [if_pos (by simp [Region.wanted, yielded, e12])]
            go_wp2_with fail
            exact hK _ (.pointer (some ⟨w.heap.size + 1, 0, none⟩)) _ (by simp only [Act.put, pA, pB, pC, e12]) ⟨hB, hz, s0, s1, V.step 13 rfl⟩
          · intro L v W2 hd hn ⟨hB, hz, s0, s1, V⟩ K hK
            have e13 := V.at (zdq hd 13 rfl) rfl
            have e12 := V.at (zdq hd 12 rfl) rfl
            rw [if_pos (by simp [Region.wanted, yielded, e12])]
            refine wp_load_mid 23 _ rfl _ 0 e13 _ _ (s1.fra) Try.underlying23 rfl (by rw [zl]; exact Try.size23) ?_
            exact hK _ _ _ rfl ⟨hB, hz, s0, s1, V.step 14 rfl⟩
          · intro L v W2 hd hn ⟨hB, hz, s0, s1, V⟩ K hK
            have e14 := V.at (zdq hd 14 rfl) rfl
            have e12 := V.at (zdq hd 12 rfl) rfl
            rw [if_pos (by simp [Region.wanted, yielded, e12])]
            go_wp2_with (go_at_call 104; refine (HMO.out _).mono ?_; rintro e wy ⟨rfl, hy⟩)
            exact hK _ (.bool true) _ (by simp only [Act.put, pA, pB, pC, e14, e12]) ⟨hB.trans (hy.mono hB.size), (Nat.le_trans hz hy.size), s0.zw hy, s1.zw hy, V.step 15 rfl⟩
          · intro L v W2 hd hn ⟨hB, hz, s0, s1, V⟩ K hK
            have e15 := V.at (zdq hd 15 rfl) rfl
            have e12 := V.at (zdq hd 12 rfl) rfl
            rw [if_pos (by simp [Region.wanted, yielded, e12])]
            go_wp2_with fail
            exact hK _ (.bool false) _ (by simp only [Act.put, pA, pB, pC, e15, e12]) ⟨hB, hz, s0, s1, V.step 16 rfl⟩
          · intro L v W2 hd hn ⟨hB, hz, s0, s1, V⟩ K hK
            have e12 := V.at (zdq hd 12 rfl) rfl
            have e16 := V.at (zdq hd 16 rfl) rfl
            rw [if_pos (by simp [Region.wanted])]
            go_wp2_with fail
            exact hK _ (.bool false) _ (by simp only [Act.put, pA, pB, pC, e12, e16]) ⟨hB, hz, s0, s1, V.step 17 rfl⟩
          · intro L v W2 hd hn ⟨hB, hz, s0, s1, V⟩ K hK
            have e17 := V.at (zdq hd 17 rfl) rfl
            rw [if_pos (by simp [Region.wanted])]
            go_wp2_with fail
            exact hK _ (.bool false) _ (by simp only [Act.put, pA, pB, pC, e17]) ⟨hB, hz, s0, s1, V.step 18 rfl⟩
          · intro L v W2 hd hn ⟨hB, hz, s0, s1, V⟩ K hK
            have e18 := V.at (zdq hd 18 rfl) rfl
            rw [if_pos (by simp [Region.wanted, yielded, e18])]
            go_wp2_with fail
            exact hK _ (.pointer (some ⟨w.heap.size + 1, 0, none⟩)) _ (by simp only [Act.put, pA, pB, pC, e18]) ⟨hB, hz, s0, s1, V.step 19 rfl⟩
          · intro L v W2 hd hn ⟨hB, hz, s0, s1, V⟩ K hK
            have e19 := V.at (zdq hd 19 rfl) rfl
            have e18 := V.at (zdq hd 18 rfl) rfl
            rw [if_pos (by simp [Region.wanted, yielded, e18])]
            refine wp_load_mid 23 _ rfl _ 0 e19 _ _ (s1.fra) Try.underlying23 rfl (by rw [zl]; exact Try.size23) ?_
            exact hK _ _ _ rfl ⟨hB, hz, s0, s1, V.step 20 rfl⟩
          · intro L v W2 hd hn ⟨hB, hz, s0, s1, V⟩ K hK
            have e20 := V.at (zdq hd 20 rfl) rfl
            have e18 := V.at (zdq hd 18 rfl) rfl
            rw [if_pos (by simp [Region.wanted, yielded, e18])]
            go_wp2_with (go_at_call 88; refine (HDA.out _).mono ?_; rintro e wy ⟨rfl, hy⟩)
            exact hK _ (.int .i64 (deg A)) _ (by simp only [Act.put, pA, pB, pC, e20, e18]) ⟨hB.trans (hy.mono hB.size), (Nat.le_trans hz hy.size), s0.zw hy, s1.zw hy, V.step 21 rfl⟩
          · intro L v W2 hd hn ⟨hB, hz, s0, s1, V⟩ K hK
            have e21 := V.at (zdq hd 21 rfl) rfl
            have e18 := V.at (zdq hd 18 rfl) rfl
            rw [if_pos (by simp [Region.wanted, yielded, e18])]
            go_wp2_with fail
            try rw [show decide ((12 : Int) < deg A) = false by simp; omega]
            try rw [show decide (deg A > (12 : Int)) = false by simp; omega]
            exact hK _ (.bool false) _ (by simp only [Act.put, pA, pB, pC, e21, e18]) ⟨hB, hz, s0, s1, V.step 22 rfl⟩
          · intro L v W2 hd hn ⟨hB, hz, s0, s1, V⟩ K hK
            have e18 := V.at (zdq hd 18 rfl) rfl
            have e22 := V.at (zdq hd 22 rfl) rfl
            rw [if_pos (by simp [Region.wanted])]
            go_wp2_with fail
            exact hK _ (.bool false) _ (by simp only [Act.put, pA, pB, pC, e18, e22]) ⟨hB, hz, s0, s1, V.step 23 rfl⟩
          · intro L v W2 hd hn ⟨hB, hz, s0, s1, V⟩ K hK
            have e23 := V.at (zdq hd 23 rfl) rfl
            rw [if_pos (by simp [Region.wanted])]
            go_wp2_with fail
            exact hK _ (.bool false) _ (by simp only [Act.put, pA, pB, pC, e23]) ⟨hB, hz, s0, s1, V.step 24 rfl⟩
          · intro L v W2 hd hn ⟨hB, hz, s0, s1, V⟩ K hK
            have e24 := V.at (zdq hd 24 rfl) rfl
            rw [if_pos (by simp [Region.wanted, yielded, e24])]
            go_wp2_with fail
            exact hK _ (.pointer (some ⟨w.heap.size + 1, 64, none⟩)) _ (by simp only [Act.put, pA, pB, pC, e24]) ⟨hB, hz, s0, s1, V.step 25 rfl⟩
          · intro L v W2 hd hn ⟨hB, hz, s0, s1, V⟩ K hK
            have e25 := V.at (zdq hd 25 rfl) rfl
            have e24 := V.at (zdq hd 24 rfl) rfl
            rw [if_pos (by simp [Region.wanted, yielded, e24])]
            refine wp_load_mid 23 _ rfl _ 64 e25 _ _ (s1.frb) Try.underlying23 rfl (by rw [zl]; exact Try.size23) ?_
            exact hK _ _ _ rfl ⟨hB, hz, s0, s1, V.step 26 rfl⟩
          · intro L v W2 hd hn ⟨hB, hz, s0, s1, V⟩ K hK
            have e26 := V.at (zdq hd 26 rfl) rfl
            have e24 := V.at (zdq hd 24 rfl) rfl
            rw [if_pos (by simp [Region.wanted, yielded, e24])]
            go_wp2_with (go_at_call 88; refine (HDB.out _).mono ?_; rintro e wy ⟨rfl, hy⟩)
            exact hK _ (.int .i64 (deg B)) _ (by simp only [Act.put, pA, pB, pC, e26, e24]) ⟨hB.trans (hy.mono hB.size), (Nat.le_trans hz hy.size), s0.zw hy, s1.zw hy, V.step 27 rfl⟩
          · intro L v W2 hd hn ⟨hB, hz, s0, s1, V⟩ K hK
            have e24 := V.at (zdq hd 24 rfl) rfl
            rw [if_pos (by simp [Region.wanted, yielded, e24])]
            go_wp2_with fail
            exact hK _ (.pointer (some ⟨w.heap.size + 1, 0, none⟩)) _ (by simp only [Act.put, pA, pB, pC, e24]) ⟨hB, hz, s0, s1, V.step 28 rfl⟩
          · intro L v W2 hd hn ⟨hB, hz, s0, s1, V⟩ K hK
            have e28 := V.at (zdq hd 28 rfl) rfl
            have e24 := V.at (zdq hd 24 rfl) rfl
            rw [if_pos (by simp [Region.wanted, yielded, e24])]
            refine wp_load_mid 23 _ rfl _ 0 e28 _ _ (s1.fra) Try.underlying23 rfl (by rw [zl]; exact Try.size23) ?_
            exact hK _ _ _ rfl ⟨hB, hz, s0, s1, V.step 29 rfl⟩
          · intro L v W2 hd hn ⟨hB, hz, s0, s1, V⟩ K hK
            have e29 := V.at (zdq hd 29 rfl) rfl
            have e24 := V.at (zdq hd 24 rfl) rfl
            rw [if_pos (by simp [Region.wanted, yielded, e24])]
            go_wp2_with (go_at_call 88; refine (HDA.out _).mono ?_; rintro e wy ⟨rfl, hy⟩)
            exact hK _ (.int .i64 (deg A)) _ (by simp only [Act.put, pA, pB, pC, e29, e24]) ⟨hB.trans (hy.mono hB.size), (Nat.le_trans hz hy.size), s0.zw hy, s1.zw hy, V.step 30 rfl⟩
          · intro L v W2 hd hn ⟨hB, hz, s0, s1, V⟩ K hK
            have e27 := V.at (zdq hd 27 rfl) rfl
            have e30 := V.at (zdq hd 30 rfl) rfl
            have e24 := V.at (zdq hd 24 rfl) rfl
            rw [if_pos (by simp [Region.wanted, yielded, e24])]
            go_wp2_with fail
            try rw [show decide (deg A ≤ deg B) = true by simp; omega]
            try rw [show decide (deg B ≥ deg A) = true by simp; omega]
            exact hK _ (.bool true) _ (by simp only [Act.put, pA, pB, pC, e27, e30, e24]) ⟨hB, hz, s0, s1, V.step 31 rfl⟩
          · intro L v W2 hd hn ⟨hB, hz, s0, s1, V⟩ K hK
            have e24 := V.at (zdq hd 24 rfl) rfl
            have e31 := V.at (zdq hd 31 rfl) rfl
            rw [if_pos (by simp [Region.wanted])]
            go_wp2_with fail
            exact hK _ (.bool true) _ (by simp only [Act.put, pA, pB, pC, e24, e31]) ⟨hB, hz, s0, s1, V.step 32 rfl⟩
        · intro L v W2 hL ⟨hB, hz, s0, s1, V⟩
          have e0 := V.at (hL 0 (by decide)) rfl
          have e1 := V.at (hL 1 (by decide)) rfl
          have e2 := V.at (hL 2 (by decide)) rfl
          have e3 := V.at (hL 3 (by decide)) rfl
          have e4 := V.at (hL 4 (by decide)) rfl
          have e5 := V.at (hL 5 (by decide)) rfl
          have e6 := V.at (hL 6 (by decide)) rfl
          have e7 := V.at (hL 7 (by decide)) rfl
          have e8 := V.at (hL 8 (by decide)) rfl
          have e9 := V.at (hL 9 (by decide)) rfl
          have e10 := V.at (hL 10 (by decide)) rfl
          have e11 := V.at (hL 11 (by decide)) rfl
          have e12 := V.at (hL 12 (by decide)) rfl
          have e13 := V.at (hL 13 (by decide)) rfl
          have e14 := V.at (hL 14 (by decide)) rfl
          have e15 := V.at (hL 15 (by decide)) rfl
          have e16 := V.at (hL 16 (by decide)) rfl
          have e17 := V.at (hL 17 (by decide)) rfl
          have e18 := V.at (hL 18 (by decide)) rfl
          have e19 := V.at (hL 19 (by decide)) rfl
          have e20 := V.at (hL 20 (by decide)) rfl
          have e21 := V.at (hL 21 (by decide)) rfl
          have e22 := V.at (hL 22 (by decide)) rfl
          have e23 := V.at (hL 23 (by decide)) rfl
          have e24 := V.at (hL 24 (by decide)) rfl
          have e25 := V.at (hL 25 (by decide)) rfl
          have e26 := V.at (hL 26 (by decide)) rfl
          have e27 := V.at (hL 27 (by decide)) rfl
          have e28 := V.at (hL 28 (by decide)) rfl
          have e29 := V.at (hL 29 (by decide)) rfl
          have e30 := V.at (hL 30 (by decide)) rfl
          have e31 := V.at (hL 31 (by decide)) rfl
          have e32 := V.at (hL 32 (by decide)) rfl
          clear hL V
          simp only [Exit.then, e0, e1, e2, e3, e4, e5, e6, e7, e8, e9, e10, e11, e12, e13, e14, e15, e16, e17, e18, e19, e20, e21, e22, e23, e24, e25, e26, e27, e28, e29, e30, e31, e32]
          clear e0 e1 e2 e3 e4 e5 e6 e7 e8 e9 e10 e11 e12 e13 e14 e15 e16 e17 e18 e19 e20 e21 e22 e23 e24 e25 e26 e27 e28 e29 e30 e31 e32
          replace B0 := s0
          clear s0
          replace B1 := s1
          clear s1
          replace hb := hB
          clear hB
          clear hbase hz lt_B0 lt_B1
          go_wp2_with fail
          go_ret
          exact ⟨by rw [HV.out]; rfl, hb⟩
    · skip
      have HV := Lib.hid (fmB_4 (p := (p : Int)) (D := D) (B := B) h12)
      have lt_B0 : (w.heap.size) < W1.heap.size := B0.lt
      have lt_B1 : (w.heap.size + 1) < W1.heap.size := B1.lt
      have hbase : w.heap.size ≤ W1.heap.size := hb.size
      refine wp_region_stepsG Try.mixed (by kernel_rfl) (by kernel_rfl) (fun v => by (simp only [frL, Act.put, pA, pB, pC, Nat.reduceAdd, Nat.zero_add]; exact rfl))
       (fun L v W2 => Below w.heap.size w W2 ∧ W1.heap.size ≤ W2.heap.size ∧ Blk W2 (w.heap.size) 64 23 (D) ∧ Row W2 (w.heap.size + 1) 55 (frC A B).toArray ∧ VF L v [some (.int .i64 (p : Int)), some (.pointer (some ⟨w.heap.size + 1, 0, none⟩)), some (.agg (zb 64 (A))), some (.bool true), some (.bool false), some (.bool false), some (.int .i64 (p : Int)), some (.pointer (some ⟨w.heap.size + 1, 64, none⟩)), some (.agg (zb 64 (B))), some (.bool true), some (.bool false), some (.bool false), some (.bool false), some (.pointer (some ⟨w.heap.size + 1, 0, none⟩)), some (.agg (zb 64 (A))), some (.bool true), some (.bool false), some (.bool false), some (.bool false), some (.pointer (some ⟨w.heap.size + 1, 0, none⟩)), some (.agg (zb 64 (A))), some (.int .i64 (deg A)), some (.bool true), some (.bool true), some (.bool true), some undef, some undef, some undef, some undef, some undef, some undef, some undef, some (.bool true)]) ?_ ?_ ?_
      · intro v hv0
        exact ⟨hb.drew, Nat.le_refl _, B0.drew, B1.drew, VF.start⟩
      · refine (.cons ?_ (.cons ?_ (.cons ?_ (.cons ?_ (.cons ?_ (.cons ?_ (.cons ?_ (.cons ?_ (.cons ?_ (.cons ?_ (.cons ?_ (.cons ?_ (.cons ?_ (.cons ?_ (.cons ?_ (.cons ?_ (.cons ?_ (.cons ?_ (.cons ?_ (.cons ?_ (.cons ?_ (.cons ?_ (.cons ?_ (.cons ?_ (.cons ?_ (.cons ?_ (.cons ?_ (.cons ?_ (.cons ?_ (.cons ?_ (.cons ?_ (.cons ?_ (.cons ?_ (.nil _))))))))))))))))))))))))))))))))))
        · intro L v W2 hd hn ⟨hB, hz, s0, s1, V⟩ K hK
          rw [if_pos (by simp [Region.wanted])]
          go_wp2_with fail
          exact hK _ (.int .i64 (p : Int)) _ (by simp only [Act.put, pA, pB, pC ]) ⟨hB, hz, s0, s1, V.step 0 rfl⟩
        · intro L v W2 hd hn ⟨hB, hz, s0, s1, V⟩ K hK
          rw [if_pos (by simp [Region.wanted])]
          go_wp2_with fail
          exact hK _ (.pointer (some ⟨w.heap.size + 1, 0, none⟩)) _ (by simp only [Act.put, pA, pB, pC ]) ⟨hB, hz, s0, s1, V.step 1 rfl⟩
        · intro L v W2 hd hn ⟨hB, hz, s0, s1, V⟩ K hK
          have e1 := V.at (zdq hd 1 rfl) rfl
          rw [if_pos (by simp [Region.wanted])]
          refine wp_load_mid 23 _ rfl _ 0 e1 _ _ (s1.fra) Try.underlying23 rfl (by rw [zl]; exact Try.size23) ?_
          exact hK _ _ _ rfl ⟨hB, hz, s0, s1, V.step 2 rfl⟩
        · intro L v W2 hd hn ⟨hB, hz, s0, s1, V⟩ K hK
          have e0 := V.at (zdq hd 0 rfl) rfl
          have e2 := V.at (zdq hd 2 rfl) rfl
          rw [if_pos (by simp [Region.wanted])]
          go_wp2_with (go_at_call 144; refine (HO1.out _).mono ?_; rintro e wy ⟨rfl, hy⟩)
          exact hK _ (.bool true) _ (by simp only [Act.put, pA, pB, pC, e0, e2]) ⟨hB.trans (hy.mono hB.size), (Nat.le_trans hz hy.size), s0.zw hy, s1.zw hy, V.step 3 rfl⟩
        · intro L v W2 hd hn ⟨hB, hz, s0, s1, V⟩ K hK
          have e3 := V.at (zdq hd 3 rfl) rfl
          rw [if_pos (by simp [Region.wanted])]
          go_wp2_with fail
          exact hK _ (.bool false) _ (by simp only [Act.put, pA, pB, pC, e3]) ⟨hB, hz, s0, s1, V.step 4 rfl⟩
        · intro L v W2 hd hn ⟨hB, hz, s0, s1, V⟩ K hK
          have e4 := V.at (zdq hd 4 rfl) rfl
          rw [if_pos (by simp [Region.wanted])]
          go_wp2_with fail
          exact hK _ (.bool false) _ (by simp only [Act.put, pA, pB, pC, e4]) ⟨hB, hz, s0, s1, V.step 5 rfl⟩
        · intro L v W2 hd hn ⟨hB, hz, s0, s1, V⟩ K hK
          have e5 := V.at (zdq hd 5 rfl) rfl
          rw [if_pos (by simp [Region.wanted, yielded, e5])]
          go_wp2_with fail
          exact hK _ (.int .i64 (p : Int)) _ (by simp only [Act.put, pA, pB, pC, e5]) ⟨hB, hz, s0, s1, V.step 6 rfl⟩
        · intro L v W2 hd hn ⟨hB, hz, s0, s1, V⟩ K hK
          have e5 := V.at (zdq hd 5 rfl) rfl
          rw [if_pos (by simp [Region.wanted, yielded, e5])]
          go_wp2_with fail
          exact hK _ (.pointer (some ⟨w.heap.size + 1, 64, none⟩)) _ (by simp only [Act.put, pA, pB, pC, e5]) ⟨hB, hz, s0, s1, V.step 7 rfl⟩
        · intro L v W2 hd hn ⟨hB, hz, s0, s1, V⟩ K hK
          have e7 := V.at (zdq hd 7 rfl) rfl
          have e5 := V.at (zdq hd 5 rfl) rfl
          rw [if_pos (by simp [Region.wanted, yielded, e5])]
          refine wp_load_mid 23 _ rfl _ 64 e7 _ _ (s1.frb) Try.underlying23 rfl (by rw [zl]; exact Try.size23) ?_
          exact hK _ _ _ rfl ⟨hB, hz, s0, s1, V.step 8 rfl⟩
        · intro L v W2 hd hn ⟨hB, hz, s0, s1, V⟩ K hK
          have e6 := V.at (zdq hd 6 rfl) rfl
          have e8 := V.at (zdq hd 8 rfl) rfl
          have e5 := V.at (zdq hd 5 rfl) rfl
          rw [if_pos (by simp [Region.wanted, yielded, e5])]
          go_wp2_with (go_at_call 144; refine (HO2.out _).mono ?_; rintro e wy ⟨rfl, hy⟩)
          exact hK _ (.bool true) _ (by simp only [Act.put, pA, pB, pC, e6, e8, e5]) ⟨hB.trans (hy.mono hB.size), (Nat.le_trans hz hy.size), s0.zw hy, s1.zw hy, V.step 9 rfl⟩
        · intro L v W2 hd hn ⟨hB, hz, s0, s1, V⟩ K hK
          have e9 := V.at (zdq hd 9 rfl) rfl
          have e5 := V.at (zdq hd 5 rfl) rfl
          rw [if_pos (by simp [Region.wanted, yielded, e5])]
          go_wp2_with fail
          exact hK _ (.bool false) _ (by simp only [Act.put, pA, pB, pC, e9, e5]) ⟨hB, hz, s0, s1, V.step 10 rfl⟩
        · intro L v W2 hd hn ⟨hB, hz, s0, s1, V⟩ K hK
          have e5 := V.at (zdq hd 5 rfl) rfl
          have e10 := V.at (zdq hd 10 rfl) rfl
          rw [if_pos (by simp [Region.wanted])]
          go_wp2_with fail
          exact hK _ (.bool false) _ (by simp only [Act.put, pA, pB, pC, e5, e10]) ⟨hB, hz, s0, s1, V.step 11 rfl⟩
        · intro L v W2 hd hn ⟨hB, hz, s0, s1, V⟩ K hK
          have e11 := V.at (zdq hd 11 rfl) rfl
          rw [if_pos (by simp [Region.wanted])]
          go_wp2_with fail
          exact hK _ (.bool false) _ (by simp only [Act.put, pA, pB, pC, e11]) ⟨hB, hz, s0, s1, V.step 12 rfl⟩
        · intro L v W2 hd hn ⟨hB, hz, s0, s1, V⟩ K hK
          have e12 := V.at (zdq hd 12 rfl) rfl
          rw [if_pos (by simp [Region.wanted, yielded, e12])]
          go_wp2_with fail
          exact hK _ (.pointer (some ⟨w.heap.size + 1, 0, none⟩)) _ (by simp only [Act.put, pA, pB, pC, e12]) ⟨hB, hz, s0, s1, V.step 13 rfl⟩
        · intro L v W2 hd hn ⟨hB, hz, s0, s1, V⟩ K hK
          have e13 := V.at (zdq hd 13 rfl) rfl
          have e12 := V.at (zdq hd 12 rfl) rfl
          rw [if_pos (by simp [Region.wanted, yielded, e12])]
          refine wp_load_mid 23 _ rfl _ 0 e13 _ _ (s1.fra) Try.underlying23 rfl (by rw [zl]; exact Try.size23) ?_
          exact hK _ _ _ rfl ⟨hB, hz, s0, s1, V.step 14 rfl⟩
        · intro L v W2 hd hn ⟨hB, hz, s0, s1, V⟩ K hK
          have e14 := V.at (zdq hd 14 rfl) rfl
          have e12 := V.at (zdq hd 12 rfl) rfl
          rw [if_pos (by simp [Region.wanted, yielded, e12])]
          go_wp2_with (go_at_call 104; refine (HMO.out _).mono ?_; rintro e wy ⟨rfl, hy⟩)
          exact hK _ (.bool true) _ (by simp only [Act.put, pA, pB, pC, e14, e12]) ⟨hB.trans (hy.mono hB.size), (Nat.le_trans hz hy.size), s0.zw hy, s1.zw hy, V.step 15 rfl⟩
        · intro L v W2 hd hn ⟨hB, hz, s0, s1, V⟩ K hK
          have e15 := V.at (zdq hd 15 rfl) rfl
          have e12 := V.at (zdq hd 12 rfl) rfl
          rw [if_pos (by simp [Region.wanted, yielded, e12])]
          go_wp2_with fail
          exact hK _ (.bool false) _ (by simp only [Act.put, pA, pB, pC, e15, e12]) ⟨hB, hz, s0, s1, V.step 16 rfl⟩
        · intro L v W2 hd hn ⟨hB, hz, s0, s1, V⟩ K hK
          have e12 := V.at (zdq hd 12 rfl) rfl
          have e16 := V.at (zdq hd 16 rfl) rfl
          rw [if_pos (by simp [Region.wanted])]
          go_wp2_with fail
          exact hK _ (.bool false) _ (by simp only [Act.put, pA, pB, pC, e12, e16]) ⟨hB, hz, s0, s1, V.step 17 rfl⟩
        · intro L v W2 hd hn ⟨hB, hz, s0, s1, V⟩ K hK
          have e17 := V.at (zdq hd 17 rfl) rfl
          rw [if_pos (by simp [Region.wanted])]
          go_wp2_with fail
          exact hK _ (.bool false) _ (by simp only [Act.put, pA, pB, pC, e17]) ⟨hB, hz, s0, s1, V.step 18 rfl⟩
        · intro L v W2 hd hn ⟨hB, hz, s0, s1, V⟩ K hK
          have e18 := V.at (zdq hd 18 rfl) rfl
          rw [if_pos (by simp [Region.wanted, yielded, e18])]
          go_wp2_with fail
          exact hK _ (.pointer (some ⟨w.heap.size + 1, 0, none⟩)) _ (by simp only [Act.put, pA, pB, pC, e18]) ⟨hB, hz, s0, s1, V.step 19 rfl⟩
        · intro L v W2 hd hn ⟨hB, hz, s0, s1, V⟩ K hK
          have e19 := V.at (zdq hd 19 rfl) rfl
          have e18 := V.at (zdq hd 18 rfl) rfl
          rw [if_pos (by simp [Region.wanted, yielded, e18])]
          refine wp_load_mid 23 _ rfl _ 0 e19 _ _ (s1.fra) Try.underlying23 rfl (by rw [zl]; exact Try.size23) ?_
          exact hK _ _ _ rfl ⟨hB, hz, s0, s1, V.step 20 rfl⟩
        · intro L v W2 hd hn ⟨hB, hz, s0, s1, V⟩ K hK
          have e20 := V.at (zdq hd 20 rfl) rfl
          have e18 := V.at (zdq hd 18 rfl) rfl
          rw [if_pos (by simp [Region.wanted, yielded, e18])]
          go_wp2_with (go_at_call 88; refine (HDA.out _).mono ?_; rintro e wy ⟨rfl, hy⟩)
          exact hK _ (.int .i64 (deg A)) _ (by simp only [Act.put, pA, pB, pC, e20, e18]) ⟨hB.trans (hy.mono hB.size), (Nat.le_trans hz hy.size), s0.zw hy, s1.zw hy, V.step 21 rfl⟩
        · intro L v W2 hd hn ⟨hB, hz, s0, s1, V⟩ K hK
          have e21 := V.at (zdq hd 21 rfl) rfl
          have e18 := V.at (zdq hd 18 rfl) rfl
          rw [if_pos (by simp [Region.wanted, yielded, e18])]
          go_wp2_with fail
          try rw [show decide ((12 : Int) < deg A) = true by simp; omega]
          try rw [show decide (deg A > (12 : Int)) = true by simp; omega]
          exact hK _ (.bool true) _ (by simp only [Act.put, pA, pB, pC, e21, e18]) ⟨hB, hz, s0, s1, V.step 22 rfl⟩
        · intro L v W2 hd hn ⟨hB, hz, s0, s1, V⟩ K hK
          have e18 := V.at (zdq hd 18 rfl) rfl
          have e22 := V.at (zdq hd 22 rfl) rfl
          rw [if_pos (by simp [Region.wanted])]
          go_wp2_with fail
          exact hK _ (.bool true) _ (by simp only [Act.put, pA, pB, pC, e18, e22]) ⟨hB, hz, s0, s1, V.step 23 rfl⟩
        · intro L v W2 hd hn ⟨hB, hz, s0, s1, V⟩ K hK
          have e23 := V.at (zdq hd 23 rfl) rfl
          rw [if_pos (by simp [Region.wanted])]
          go_wp2_with fail
          exact hK _ (.bool true) _ (by simp only [Act.put, pA, pB, pC, e23]) ⟨hB, hz, s0, s1, V.step 24 rfl⟩
        · intro L v W2 hd hn ⟨hB, hz, s0, s1, V⟩ K hK
          have e24 := V.at (zdq hd 24 rfl) rfl
          rw [if_neg (by simp [Region.wanted, yielded, e24])]
          exact hK _ undef _ rfl ⟨hB, hz, s0, s1, V.step 25 rfl⟩
        · intro L v W2 hd hn ⟨hB, hz, s0, s1, V⟩ K hK
          have e25 := V.at (zdq hd 25 rfl) rfl
          have e24 := V.at (zdq hd 24 rfl) rfl
          rw [if_neg (by simp [Region.wanted, yielded, e24])]
          exact hK _ undef _ rfl ⟨hB, hz, s0, s1, V.step 26 rfl⟩
        · intro L v W2 hd hn ⟨hB, hz, s0, s1, V⟩ K hK
          have e26 := V.at (zdq hd 26 rfl) rfl
          have e24 := V.at (zdq hd 24 rfl) rfl
          rw [if_neg (by simp [Region.wanted, yielded, e24])]
          exact hK _ undef _ rfl ⟨hB, hz, s0, s1, V.step 27 rfl⟩
        · intro L v W2 hd hn ⟨hB, hz, s0, s1, V⟩ K hK
          have e24 := V.at (zdq hd 24 rfl) rfl
          rw [if_neg (by simp [Region.wanted, yielded, e24])]
          exact hK _ undef _ rfl ⟨hB, hz, s0, s1, V.step 28 rfl⟩
        · intro L v W2 hd hn ⟨hB, hz, s0, s1, V⟩ K hK
          have e28 := V.at (zdq hd 28 rfl) rfl
          have e24 := V.at (zdq hd 24 rfl) rfl
          rw [if_neg (by simp [Region.wanted, yielded, e24])]
          exact hK _ undef _ rfl ⟨hB, hz, s0, s1, V.step 29 rfl⟩
        · intro L v W2 hd hn ⟨hB, hz, s0, s1, V⟩ K hK
          have e29 := V.at (zdq hd 29 rfl) rfl
          have e24 := V.at (zdq hd 24 rfl) rfl
          rw [if_neg (by simp [Region.wanted, yielded, e24])]
          exact hK _ undef _ rfl ⟨hB, hz, s0, s1, V.step 30 rfl⟩
        · intro L v W2 hd hn ⟨hB, hz, s0, s1, V⟩ K hK
          have e27 := V.at (zdq hd 27 rfl) rfl
          have e30 := V.at (zdq hd 30 rfl) rfl
          have e24 := V.at (zdq hd 24 rfl) rfl
          rw [if_neg (by simp [Region.wanted, yielded, e24])]
          exact hK _ undef _ rfl ⟨hB, hz, s0, s1, V.step 31 rfl⟩
        · intro L v W2 hd hn ⟨hB, hz, s0, s1, V⟩ K hK
          have e24 := V.at (zdq hd 24 rfl) rfl
          have e31 := V.at (zdq hd 31 rfl) rfl
          rw [if_pos (by simp [Region.wanted])]
          go_wp2_with fail
          exact hK _ (.bool true) _ (by simp only [Act.put, pA, pB, pC, e24, e31]) ⟨hB, hz, s0, s1, V.step 32 rfl⟩
      · intro L v W2 hL ⟨hB, hz, s0, s1, V⟩
        have e0 := V.at (hL 0 (by decide)) rfl
        have e1 := V.at (hL 1 (by decide)) rfl
        have e2 := V.at (hL 2 (by decide)) rfl
        have e3 := V.at (hL 3 (by decide)) rfl
        have e4 := V.at (hL 4 (by decide)) rfl
        have e5 := V.at (hL 5 (by decide)) rfl
        have e6 := V.at (hL 6 (by decide)) rfl
        have e7 := V.at (hL 7 (by decide)) rfl
        have e8 := V.at (hL 8 (by decide)) rfl
        have e9 := V.at (hL 9 (by decide)) rfl
        have e10 := V.at (hL 10 (by decide)) rfl
        have e11 := V.at (hL 11 (by decide)) rfl
        have e12 := V.at (hL 12 (by decide)) rfl
        have e13 := V.at (hL 13 (by decide)) rfl
        have e14 := V.at (hL 14 (by decide)) rfl
        have e15 := V.at (hL 15 (by decide)) rfl
        have e16 := V.at (hL 16 (by decide)) rfl
        have e17 := V.at (hL 17 (by decide)) rfl
        have e18 := V.at (hL 18 (by decide)) rfl
        have e19 := V.at (hL 19 (by decide)) rfl
        have e20 := V.at (hL 20 (by decide)) rfl
        have e21 := V.at (hL 21 (by decide)) rfl
        have e22 := V.at (hL 22 (by decide)) rfl
        have e23 := V.at (hL 23 (by decide)) rfl
        have e24 := V.at (hL 24 (by decide)) rfl
        have e25 := V.at (hL 25 (by decide)) rfl
        have e26 := V.at (hL 26 (by decide)) rfl
        have e27 := V.at (hL 27 (by decide)) rfl
        have e28 := V.at (hL 28 (by decide)) rfl
        have e29 := V.at (hL 29 (by decide)) rfl
        have e30 := V.at (hL 30 (by decide)) rfl
        have e31 := V.at (hL 31 (by decide)) rfl
        have e32 := V.at (hL 32 (by decide)) rfl
        clear hL V
        simp only [Exit.then, e0, e1, e2, e3, e4, e5, e6, e7, e8, e9, e10, e11, e12, e13, e14, e15, e16, e17, e18, e19, e20, e21, e22, e23, e24, e25, e26, e27, e28, e29, e30, e31, e32]
        clear e0 e1 e2 e3 e4 e5 e6 e7 e8 e9 e10 e11 e12 e13 e14 e15 e16 e17 e18 e19 e20 e21 e22 e23 e24 e25 e26 e27 e28 e29 e30 e31 e32
        replace B0 := s0
        clear s0
        replace B1 := s1
        clear s1
        replace hb := hB
        clear hB
        clear hbase hz lt_B0 lt_B1
        go_wp2_with fail
        go_ret
        exact ⟨by rw [HV.out]; rfl, hb⟩
end Go.Proofs.Ytoncepgcfifgbaa
end
section
namespace Go.Proofs.Ytoncepgcfifgbaa
open Go Go.RowKit
set_option linter.unusedVariables false
set_option linter.unusedSimpArgs false
/-- the mark of a cell -/
def mkF (q : Nat) : Value := if q % 65 = 64 then .int .i64 (1 + (q : Int)) else .int .u8 ((1 + (q : Int)) % 256)
/-- the first q cells of a slice are marked -/
def MkF (w : World) (base : Nat) (v : Value) (n q : Nat) : Prop := ∃ ys, w.ownsRow base 100 65 v n ys ∧ ∀ k, k < q → ys[k]? = some (mkF k)
theorem MkF.own {w : World} {base n q : Nat} {v : Value} (h : MkF w base v n q) : ∀ r, v.ownBlock = Option.some r → base ≤ r ∧ r < w.heap.size := by
 obtain ⟨ys, h1, _⟩ := h
 exact fun r hr => h1.lt r hr
theorem MkF.grown {w w' : World} {base n q : Nat} {v : Value} {row : Option Nat} (h : MkF w base v n q) (hg : w.grownBy w' row) (hr : v.ownBlock = none ∨ v.ownBlock ≠ row) : MkF w' base v n q := by
 obtain ⟨ys, h1, h2⟩ := h
 exact ⟨ys, h1.kept hg hr, h2⟩
theorem MkF.below {w w' : World} {base n q : Nat} {v : Value} (h : MkF w base v n q) (hb : Below w.heap.size w w') : MkF w' base v n q :=
 h.grown (row := none) ⟨hb.os, hb.tape, hb.output, hb.size, fun k hk _ => hb.block k hk⟩ (by
  cases hv : v.ownBlock with
  | none => exact .inl rfl
  | some k => exact .inr (by simp))
theorem MkF.step {w : World} {base n q g cap : Nat} (h : MkF w base (.slice (some ⟨g, 0, none⟩) n cap) n q) (hq : q < n * 65) :
 (∃ u, w.cell? ⟨g, q, none⟩ = Option.some u) ∧ w.frozen? ⟨g, q, none⟩ = false ∧ MkF (w.setCell ⟨g, q, none⟩ (mkF q)) base (.slice (some ⟨g, 0, none⟩) n cap) n (q + 1) ∧ w.grownBy (w.setCell ⟨g, q, none⟩ (mkF q)) (Option.some g) := by
 obtain ⟨ys, h1, h2⟩ := h
 have hl : q < ys.length := by rw [h1.1]; exact hq
 obtain ⟨s1, s2⟩ := h1.stored q (mkF q)
 refine ⟨⟨ys[q], by rw [h1.cellAt q hq]; exact List.getElem?_eq_getElem hl⟩, h1.frozenAt q, ⟨_, s1, fun k hk => ?_⟩, s2⟩
 rw [List.getElem?_set]
 by_cases e : q = k
 · subst e; rw [if_pos rfl, if_pos hl]
 · rw [if_neg e]; exact h2 k (by omega)
theorem MkF.cell {w : World} {base n q g cap k : Nat} (h : MkF w base (.slice (some ⟨g, 0, none⟩) n cap) n q) (hk : k < q) (hq : q ≤ n * 65) : w.cell? ⟨g, k, none⟩ = Option.some (mkF k) := by
 obtain ⟨ys, h1, h2⟩ := h
 rw [h1.cellAt k (by omega)]
 exact h2 k hk
theorem MkF.same {w : World} {base n q : Nat} {v : Value} (h : MkF w base v n q) (r : Nat) (e : r = q) : MkF w base v n r := e ▸ h
attribute [local irreducible] mkF MkF
end Go.Proofs.Ytoncepgcfifgbaa
namespace Go.Proofs.Ytoncepgcfifgbaa
open Go Go.RowKit
set_option linter.unusedVariables false
set_option linter.unusedSimpArgs false
/-- the mark of a cell -/
def mkW (q : Nat) : Value := .int .u8 ((1 + (q : Int)) % 256)
/-- the first q cells of a slice are marked -/
def MkP (w : World) (base : Nat) (v : Value) (n q : Nat) : Prop := ∃ ys, w.ownsRow base 23 64 v n ys ∧ ∀ k, k < q → ys[k]? = some (mkW k)
theorem MkP.own {w : World} {base n q : Nat} {v : Value} (h : MkP w base v n q) : ∀ r, v.ownBlock = Option.some r → base ≤ r ∧ r < w.heap.size := by
 obtain ⟨ys, h1, _⟩ := h
 exact fun r hr => h1.lt r hr
theorem MkP.grown {w w' : World} {base n q : Nat} {v : Value} {row : Option Nat} (h : MkP w base v n q) (hg : w.grownBy w' row) (hr : v.ownBlock = none ∨ v.ownBlock ≠ row) : MkP w' base v n q := by
 obtain ⟨ys, h1, h2⟩ := h
 exact ⟨ys, h1.kept hg hr, h2⟩
theorem MkP.below {w w' : World} {base n q : Nat} {v : Value} (h : MkP w base v n q) (hb : Below w.heap.size w w') : MkP w' base v n q :=
 h.grown (row := none) ⟨hb.os, hb.tape, hb.output, hb.size, fun k hk _ => hb.block k hk⟩ (by
  cases hv : v.ownBlock with
  | none => exact .inl rfl
  | some k => exact .inr (by simp))
theorem MkP.step {w : World} {base n q g cap : Nat} (h : MkP w base (.slice (some ⟨g, 0, none⟩) n cap) n q) (hq : q < n * 64) :
 (∃ u, w.cell? ⟨g, q, none⟩ = Option.some u) ∧ w.frozen? ⟨g, q, none⟩ = false ∧ MkP (w.setCell ⟨g, q, none⟩ (mkW q)) base (.slice (some ⟨g, 0, none⟩) n cap) n (q + 1) ∧ w.grownBy (w.setCell ⟨g, q, none⟩ (mkW q)) (Option.some g) := by
 obtain ⟨ys, h1, h2⟩ := h
 have hl : q < ys.length := by rw [h1.1]; exact hq
 obtain ⟨s1, s2⟩ := h1.stored q (mkW q)
 refine ⟨⟨ys[q], by rw [h1.cellAt q hq]; exact List.getElem?_eq_getElem hl⟩, h1.frozenAt q, ⟨_, s1, fun k hk => ?_⟩, s2⟩
 rw [List.getElem?_set]
 by_cases e : q = k
 · subst e; rw [if_pos rfl, if_pos hl]
 · rw [if_neg e]; exact h2 k (by omega)
theorem MkP.cell {w : World} {base n q g cap k : Nat} (h : MkP w base (.slice (some ⟨g, 0, none⟩) n cap) n q) (hk : k < q) (hq : q ≤ n * 64) : w.cell? ⟨g, k, none⟩ = Option.some (mkW k) := by
 obtain ⟨ys, h1, h2⟩ := h
 rw [h1.cellAt k (by omega)]
 exact h2 k hk
theorem MkP.same {w : World} {base n q : Nat} {v : Value} (h : MkP w base v n q) (r : Nat) (e : r = q) : MkP w base v n r := e ▸ h
attribute [local irreducible] mkW MkP
end Go.Proofs.Ytoncepgcfifgbaa
namespace Go.Proofs.Ytoncepgcfifgbaa
open Go Go.RowKit
set_option linter.unusedVariables false
set_option linter.unusedSimpArgs false
attribute [local irreducible] ofN
/-- T^n and a number below -/
theorem ofN_plus {p n j : Nat} (hp : 2 ≤ p) (hj : j < p ^ n) (k : Nat) : upd (ofN p j) n 1 k = ofN p (p ^ n + j) k := by
 unfold upd
 by_cases e : k = n
 · subst e; rw [if_pos rfl]; exact (ofN_top hp (by omega) (by omega)).symm
 · rw [if_neg e]
   by_cases h : k < n
   · unfold ofN dgt
     obtain ⟨d, rfl⟩ : ∃ d, n = k + 1 + d := ⟨n - k - 1, by omega⟩
     have e1 : p ^ (k + 1 + d) = p ^ k * (p * p ^ d) := by rw [Nat.pow_add, Nat.pow_succ, Nat.mul_assoc]
     rw [e1, Nat.add_comm, Nat.add_mul_div_left _ _ (Nat.pow_pos (by omega)), Nat.add_mul_mod_self_left]
   · rw [ofN_high hp (n := n) (by omega) (by omega), ofN_high hp (n := n) (by omega) (by omega)]
end Go.Proofs.Ytoncepgcfifgbaa
end
section
namespace Go.Proofs.Ytoncepgcfifgbaa
open Go Go.RowKit
set_option linter.unusedVariables false
set_option linter.unusedSimpArgs false
/-- rows of forms -/
def frRows (R : List ((Nat → Nat) × (Nat → Nat))) : List (List Value) := R.map fun x => frC x.1 x.2
theorem frRows_len (R : List ((Nat → Nat) × (Nat → Nat))) : (frRows R).length = R.length := by unfold frRows; rw [List.length_map]
theorem frRows_nil : frRows [] = [] := rfl
theorem frRows_snoc (R : List ((Nat → Nat) × (Nat → Nat))) (x : (Nat → Nat) × (Nat → Nat)) : frRows (R ++ [x]) = frRows R ++ [frC x.1 x.2] := by unfold frRows; rw [List.map_append]; rfl
attribute [local irreducible] frC
/-- the mark of a cell -/
def mkE (q : Nat) : Value := .int .u8 ((1 + (q : Int)) % 256)
/-- the first q cells of a slice are marked -/
def MkE (w : World) (base : Nat) (v : Value) (n q : Nat) : Prop := ∃ ys, w.ownsRow base 55 128 v n ys ∧ ∀ k, k < q → ys[k]? = some (mkE k)
theorem MkE.own {w : World} {base n q : Nat} {v : Value} (h : MkE w base v n q) : ∀ r, v.ownBlock = Option.some r → base ≤ r ∧ r < w.heap.size := by
 obtain ⟨ys, h1, _⟩ := h
 exact fun r hr => h1.lt r hr
theorem MkE.grown {w w' : World} {base n q : Nat} {v : Value} {row : Option Nat} (h : MkE w base v n q) (hg : w.grownBy w' row) (hr : v.ownBlock = none ∨ v.ownBlock ≠ row) : MkE w' base v n q := by
 obtain ⟨ys, h1, h2⟩ := h
 exact ⟨ys, h1.kept hg hr, h2⟩
theorem MkE.below {w w' : World} {base n q : Nat} {v : Value} (h : MkE w base v n q) (hb : Below w.heap.size w w') : MkE w' base v n q :=
 h.grown (row := none) ⟨hb.os, hb.tape, hb.output, hb.size, fun k hk _ => hb.block k hk⟩ (by
  cases hv : v.ownBlock with
  | none => exact .inl rfl
  | some k => exact .inr (by simp))
theorem MkE.step {w : World} {base n q g cap : Nat} (h : MkE w base (.slice (some ⟨g, 0, none⟩) n cap) n q) (hq : q < n * 128) :
 (∃ u, w.cell? ⟨g, q, none⟩ = Option.some u) ∧ w.frozen? ⟨g, q, none⟩ = false ∧ MkE (w.setCell ⟨g, q, none⟩ (mkE q)) base (.slice (some ⟨g, 0, none⟩) n cap) n (q + 1) ∧ w.grownBy (w.setCell ⟨g, q, none⟩ (mkE q)) (Option.some g) := by
 obtain ⟨ys, h1, h2⟩ := h
 have hl : q < ys.length := by rw [h1.1]; exact hq
 obtain ⟨s1, s2⟩ := h1.stored q (mkE q)
 refine ⟨⟨ys[q], by rw [h1.cellAt q hq]; exact List.getElem?_eq_getElem hl⟩, h1.frozenAt q, ⟨_, s1, fun k hk => ?_⟩, s2⟩
 rw [List.getElem?_set]
 by_cases e : q = k
 · subst e; rw [if_pos rfl, if_pos hl]
 · rw [if_neg e]; exact h2 k (by omega)
theorem MkE.cell {w : World} {base n q g cap k : Nat} (h : MkE w base (.slice (some ⟨g, 0, none⟩) n cap) n q) (hk : k < q) (hq : q ≤ n * 128) : w.cell? ⟨g, k, none⟩ = Option.some (mkE k) := by
 obtain ⟨ys, h1, h2⟩ := h
 rw [h1.cellAt k (by omega)]
 exact h2 k hk
theorem MkE.same {w : World} {base n q : Nat} {v : Value} (h : MkE w base v n q) (r : Nat) (e : r = q) : MkE w base v n r := e ▸ h
attribute [local irreducible] mkE MkE
end Go.Proofs.Ytoncepgcfifgbaa
end
section
namespace Go.Proofs.Ytoncepgcfifgbaa
open Rg
set_option linter.unusedVariables false
set_option linter.unusedSimpArgs false
attribute [local irreducible] deg invN quoP resP prd bzD bzU bzW
def lnX (p x : Nat) : Nat → Nat := fun k => if k = 0 then (p - x) % p else if k = 1 then 1 else 0
theorem lnX_lt {p x : Nat} (hp : 2 ≤ p) : ∀ k, k < 64 → lnX p x k < p := fun k _ => by
 unfold lnX
 split
 · exact Nat.mod_lt _ (by omega)
 · split <;> omega
theorem lnX_deg (p x : Nat) : deg (lnX p x) = 1 := by
 have h1 : deg (lnX p x) ≤ 1 := deg_le (by omega) (fun k hk _ => by unfold lnX; rw [if_neg (by omega), if_neg (by omega)])
 have h2 : (1 : Int) ≤ deg (lnX p x) := by
  by_cases h : 1 ≤ deg (lnX p x)
  · exact h
  · have h3 := zero_above (f := lnX p x) (k := 1) (by omega) (by omega)
    unfold lnX at h3
    simp at h3
 omega
theorem tt_lnX {p x : Nat} (hx : x < p) : (tt : Res p (lz (lnX p x))) = nm x e := by
 rw [nm_cl]
 refine cl_eq.2 ⟨oneS, fin_oneS, ?_⟩
 have h1 : mz oneS (lz (lnX p x)) = lz (lnX p x) := mz_one _
 rw [h1]
 intro k
 unfold sz TS lz cut lnX
 by_cases h0 : k = 0
 · subst h0
   by_cases hx0 : x = 0
   · subst hx0; simp
   · rw [Nat.mod_eq_of_lt (by omega)]
     simp
     exact ⟨-1, by omega⟩
 · by_cases h2 : k = 1
   · subst h2; simp
   · by_cases h3 : k < 64 <;> simp [h0, h2, h3]
def hvL (x : Nat) : List Nat → Nat
 | [] => 0
 | c :: cs => c + x * hvL x cs
theorem pe_num {R : Type} [Rg R] (x : Nat) : ∀ cs : List Nat, pe cs (nm x (e : R)) = nm (hvL x cs) e
 | [] => rfl
 | c :: cs => by
  show nm c e + nm x (e : R) * pe cs (nm x e) = nm (c + x * hvL x cs) e
  rw [pe_num x cs, nm_mul, emul, nm_nm, nm_add, Nat.mul_comm]
theorem nm_mod {p : Nat} {m : Nat → Int} (k : Nat) : (nm (k % p) e : Res p m) = nm k e := by
 conv => rhs; rw [← Nat.div_add_mod k p, nm_add, nm_mult res_char]
 exact (oadd _).symm
theorem hvL_hr (p x : Nat) (f : Nat → Nat) : ∀ m, m ≤ 64 → hrN p x f m % p = hvL x ((List.range' (64 - m) m).map f) % p
 | 0, _ => by rw [hrN_z]; rfl
 | m + 1, h => by
  have ih := hvL_hr p x f m (by omega)
  have e1 : List.range' (64 - (m + 1)) (m + 1) = (63 - m) :: List.range' (64 - m) m := by
   rw [List.range'_succ, show 64 - (m + 1) = 63 - m by omega, show 63 - m + 1 = 64 - m by omega]
  rw [hrN_succ, e1, List.map_cons, Nat.mod_mod]
  show _ = (f (63 - m) + x * hvL x _) % p
  rw [Nat.add_comm, Nat.add_mod, Nat.mul_mod, ih, ← Nat.mul_mod, ← Nat.add_mod, Nat.mul_comm]
theorem rs_num {p x : Nat} (hx : x < p) (f : Nat → Nat) : (rs f : Res p (lz (lnX p x))) = nm (hrN p x f 64) e := by
 rw [rs_list, tt_lnX hx, pe_num]
 have h := hvL_hr p x f 64 (by omega)
 rw [← nm_mod (hvL x _), ← nm_mod (hrN p x f 64), h, Nat.sub_self, List.range_eq_range']
theorem num_inj {p x a b : Nat} (hp : p = 2 ∨ p = 3 ∨ p = 5 ∨ p = 7) (ha : a < p) (hb : b < p) (h : (nm a e : Res p (lz (lnX p x))) = nm b e) : a = b := by
 have key1 : ∀ c, c < p → ∀ k, k < 64 → (fun k => if k = 0 then c else 0 : Nat → Nat) k < p := fun c hc k _ => by
  show (if k = 0 then c else 0) < p
  split <;> omega
 have key2 : ∀ c, deg (fun k => if k = 0 then c else 0) < deg (lnX p x) := fun c => by
  have : deg (fun k => if k = 0 then c else 0) ≤ 0 := deg_le (by omega) (fun k hk _ => if_neg (by omega))
  rw [lnX_deg]; omega
 have e1 : ∀ c, (nm c e : Res p (lz (lnX p x))) = rs (fun k => if k = 0 then c else 0) := fun c => by
  rw [nm_cl]
  refine cl_congr ?_
  funext k
  unfold lz cut
  by_cases h0 : k = 0
  · subst h0; simp
  · by_cases h6 : k < 64 <;> simp [h0, h6]
 rw [e1, e1] at h
 have := res_sameN hp (key1 a ha) (key1 b hb) (lnX_lt (by omega)) (by rw [lnX_deg]; omega) (key2 a) (key2 b) (cl_eq.1 h) 0 (by omega)
 simpa using this
/-- where A has a root, D is a square -/
theorem root_sq {p x : Nat} {D A B : Nat → Nat} (hp : p = 2 ∨ p = 3 ∨ p = 5 ∨ p = 7) (hx : x < p) (lD : ∀ k, k < 64 → D k < p) (hB : deg B + deg B ≤ 63) (h : dv p (lz A) (lz (sqP p D B))) (h0 : hrN p x A 64 = 0) : hrN p x B 64 * hrN p x B 64 % p = hrN p x D 64 := by
 have p0 : 0 < p := by omega
 have hA : (rs A : Res p (lz (lnX p x))) = o := by rw [rs_num hx, h0]; rfl
 obtain ⟨q, hq, hc⟩ := dv_ex.1 h
 have hS : (rs (sqP p D B) : Res p (lz (lnX p x))) = o := by
  have e1 : (rs (sqP p D B) : Res p (lz (lnX p x))) = cl q hq * rs A := cl_eq.2 (rm_of_cg hc)
  rw [e1, hA, mulo]
 have h1 : (rs (sqP p D B) : Res p (lz (lnX p x))) + rs (prd p B B) = rs D := rs_subP (fun k _ => prd_lt p0 k)
 rw [hS, oadd, rs_prd p0 hB, rs_num hx, rs_num hx, nm_mul, emul, nm_nm, ← nm_mod] at h1
 exact num_inj hp (Nat.mod_lt _ p0) (hrN_lt p x D 64 p0) h1
end Go.Proofs.Ytoncepgcfifgbaa
end
section
namespace Go.Proofs.Ytoncepgcfifgbaa
open Go Go.RowKit Go.Shelf
set_option linter.unusedVariables false
set_option linter.unusedSimpArgs false
attribute [local irreducible] deg invN quoP resP prd bzD bzU bzW sqP
/-- is c a square modulo p -/
def sqB (p c : Nat) : Bool := (List.range p).any fun y => y * y % p == c
theorem sqB_yes {p c j : Nat} (hj : j < p) (h : j * j % p = c) : sqB p c = true := by
 unfold sqB
 rw [List.any_eq_true]
 exact ⟨j, List.mem_range.2 hj, by simpa using h⟩
theorem sqB_no {p c : Nat} (h : ∀ i, i < p → ¬ i * i % p = c) : sqB p c = false := by
 unfold sqB
 rw [List.any_eq_false]
 intro i hi
 have := h i (List.mem_range.1 hi)
 simpa using this
set_option maxRecDepth 100000 in
theorem lesserThan_any (p n : Nat) (w : World) (hp1 : 2 ≤ p) (hp2 : p ≤ 7) (hn : n ≤ 12) : Calls Try.prog 182 #[.int .i64 (p : Int), .int .i64 (n : Int)] w (NumF p 0 (p ^ n) w) := by
 have HNM := Lib.hid (fun W => norm_any p n W hp1 hp2 (by omega))
 obtain ⟨q, hq⟩ : ∃ q, q = p ^ n := ⟨_, rfl⟩
 rw [← hq] at HNM ⊢
 have HNB := Lib.hid (show ∀ W, Calls Try.prog 154 #[.int .i64 (p : Int), .int .i64 0, .int .i64 (q : Int)] W (NumF p 0 q W) from fun W => numbered_any p 0 q W)
 clear hq
 go_enter Try.func182, Try.ntmps182
 go_wp2_with (first | (go_at_call 108; refine (HNM.out _).mono ?_; rintro e w2 ⟨rfl, rfl⟩) | (go_at_call 154; refine (HNB.out _).mono ?_; rintro e w2 ⟨ba, bb, bp, rfl, r1, r2, r3, C0, C1, C2, hB⟩))
 go_ret
 exact ⟨ba, bb, bp, rfl, r1, r2, r3, C0, C1, C2, hB⟩
set_option maxRecDepth 100000 in
set_option maxHeartbeats 3200000 in
theorem isSquareAt_any (p x : Nat) (D : Nat → Nat) (w : World) (hpr : p = 2 ∨ p = 3 ∨ p = 5 ∨ p = 7) (lD : ∀ k, k < 64 → D k < p) (hx : x < p) :
 Calls Try.prog 181 #[.agg (fdC (p : Int) D).toArray, .int .i64 (x : Int)] w fun e w' => e = .returned (.bool (sqB p (hrN p x D 64))) ∧ Below w.heap.size w w' := by
 have HVA := Lib.hid (fun W => valueAt_any p D x W (by omega) (by omega) hx lD)
 obtain ⟨c, hc⟩ : ∃ c, c = hrN p x D 64 := ⟨_, rfl⟩
 rw [← hc] at HVA ⊢
 have p7 : p ≤ 7 := by omega
 clear hc hpr lD hx
 obtain ⟨S, hS⟩ : ∃ S, S = sqB p c := ⟨_, rfl⟩
 rw [← hS]
 have HS := Lib.hid hS
 clear hS
 go_enter Try.func181, Try.ntmps181
 go_upto_region 1 with (fail)
 obtain ⟨W1, hwo⟩ : ∃ v : World, v = (w.alloc (.cells (fdC (p : Int) D).toArray 107)) := ⟨_, rfl⟩
 have B0 : Row W1 (w.heap.size) 107 (fdC (p : Int) D).toArray := by subst hwo; have := (Row.new w 107 (fdC (p : Int) D).toArray); simpa using this
 have hb : Below w.heap.size w W1 := by subst hwo; exact ((Below.refl _ _).alloc (Nat.le_refl _) _)
 rw [← hwo]
 clear hwo
 go_wp2_with (first | (refine wpList_load_rowc rfl 2 (.tmp 6) rfl _ 0 rfl 107 _ (B0) (.int .i64 (p : Int)) (fdC_at _ _) _ Try.underlying2 rfl ?_))
 go_loopw [8] (fun i wr => ∃ j : Nat, i = .int .i64 (j : Int) ∧ j ≤ p ∧ Hid (∀ i, i < j → ¬ i * i % p = c) ∧ Below w.heap.size w wr ∧ Row wr (w.heap.size) 107 (fdC (p : Int) D).toArray) (fun i _ => p - (intOf i).toNat)
 case atStart => exact ⟨0, rfl, Nat.zero_le _, Lib.hid (fun i hi => absurd hi (by omega)), hb, B0⟩
 case round =>
  clear hb B0
  obtain ⟨j, rfl, hj, hN, hb, B0⟩ := hrel
  by_cases hlt : j < p
  · have hlt2 : (j : Int) < (p : Int) := by omega
    obtain ⟨r, hr⟩ : ∃ r, r = j * j % p := ⟨_, rfl⟩
    have HR := Lib.hid (show (j : Int) * (j : Int) % (p : Int) = (r : Int) by rw [hr]; push_cast; rfl)
    have m1 : (j : Int) * (j : Int) ≤ 36 := by
     have h1 : j * j ≤ 6 * 6 := Nat.mul_le_mul (by omega) (by omega)
     have h2 : ((j * j : Nat) : Int) = (j : Int) * (j : Int) := by push_cast; rfl
     omega
    have m2 : (0 : Int) ≤ (j : Int) * (j : Int) := Int.mul_nonneg (by omega) (by omega)
    have HRN := Lib.hid hr
    clear hr
    by_cases hrc : r = c
    · subst hrc
      go_upto_region 4 with (fail)
      refine zq Try.mixed (by kernel_rfl) (by kernel_rfl) (fun v => by (simp only [frL, Act.put, pA, pB, pC, Nat.reduceAdd, Nat.zero_add]; exact rfl))
       (fun L v W2 => Below wr.heap.size wr W2 ∧ VF L v [some (.int .i64 (j : Int)), some (.int .i64 (j : Int)), some (.int .i64 ((j : Int) * (j : Int))), some (.pointer (some ⟨w.heap.size, 0, none⟩)), some (.int .i64 (p : Int)), some (.int .i64 (r : Int)), some (.pointer (some ⟨w.heap.size, 0, none⟩)), some (.int .i64 (p : Int)), some (.pointer (some ⟨w.heap.size, 1, none⟩)), some (.agg (zb 64 (D))), some (.int .i64 (x : Int)), some (.int .i64 (r : Int)), some (.bool true)]) ?_ ?_ ?_
      · intro v hv0
        exact ⟨(Below.refl _ wr).drew, VF.start⟩
      · refine (.cons rfl ?_ (.cons rfl ?_ (.cons rfl ?_ (.cons rfl ?_ (.cons rfl ?_ (.cons rfl ?_ (.cons rfl ?_ (.cons rfl ?_ (.cons rfl ?_ (.cons rfl ?_ (.cons rfl ?_ (.cons rfl ?_ (.cons rfl ?_ (.nil _))))))))))))))
        all_goals intro L v W2 hd hn ⟨hY, V⟩ K hK
        · go_wp2_with fail
          exact hK _ (.int .i64 (j : Int)) _ (by simp only [Act.put, pA, pB, pC ]) ⟨hY, V.step 0 rfl⟩
        · go_wp2_with fail
          exact hK _ (.int .i64 (j : Int)) _ (by simp only [Act.put, pA, pB, pC ]) ⟨hY, V.step 1 rfl⟩
        · have e0 := V.at (zdq hd 0 rfl) rfl
          have e1 := V.at (zdq hd 1 rfl) rfl
          go_wp2_with fail
          exact hK _ (.int .i64 ((j : Int) * (j : Int))) _ (by simp only [Act.put, pA, pB, pC, e0, e1]) ⟨hY, V.step 2 rfl⟩
        · go_wp2_with fail
          exact hK _ (.pointer (some ⟨w.heap.size, 0, none⟩)) _ (by simp only [Act.put, pA, pB, pC ]) ⟨hY, V.step 3 rfl⟩
        · have e3 := V.at (zdq hd 3 rfl) rfl
          refine wp_load_rowc 2 _ rfl _ 0 e3 107 _ (B0.zw hY) (.int .i64 (p : Int)) (fdC_at _ _) _ Try.underlying2 rfl ?_
          exact hK _ _ _ rfl ⟨hY, V.step 4 rfl⟩
        · have e2 := V.at (zdq hd 2 rfl) rfl
          have e4 := V.at (zdq hd 4 rfl) rfl
          go_wp2_with fail
          try rw [HR.out]
          exact hK _ (.int .i64 (r : Int)) _ (by simp only [Act.put, pA, pB, pC, e2, e4]) ⟨hY, V.step 5 rfl⟩
        · go_wp2_with fail
          exact hK _ (.pointer (some ⟨w.heap.size, 0, none⟩)) _ (by simp only [Act.put, pA, pB, pC ]) ⟨hY, V.step 6 rfl⟩
        · have e6 := V.at (zdq hd 6 rfl) rfl
          refine wp_load_rowc 2 _ rfl _ 0 e6 107 _ (B0.zw hY) (.int .i64 (p : Int)) (fdC_at _ _) _ Try.underlying2 rfl ?_
          exact hK _ _ _ rfl ⟨hY, V.step 7 rfl⟩
        · go_wp2_with fail
          exact hK _ (.pointer (some ⟨w.heap.size, 1, none⟩)) _ (by simp only [Act.put, pA, pB, pC ]) ⟨hY, V.step 8 rfl⟩
        · have e8 := V.at (zdq hd 8 rfl) rfl
          refine wp_load_mid 23 _ rfl _ 1 e8 _ _ ((B0.zw hY).fd) Try.underlying23 rfl (by rw [zl]; exact Try.size23) ?_
          exact hK _ _ _ rfl ⟨hY, V.step 9 rfl⟩
        · go_wp2_with fail
          exact hK _ (.int .i64 (x : Int)) _ (by simp only [Act.put, pA, pB, pC ]) ⟨hY, V.step 10 rfl⟩
        · have e7 := V.at (zdq hd 7 rfl) rfl
          have e9 := V.at (zdq hd 9 rfl) rfl
          have e10 := V.at (zdq hd 10 rfl) rfl
          go_wp2_with (go_at_call 180; refine (HVA.out _).mono ?_; rintro e wy ⟨rfl, hy⟩)
          exact hK _ (.int .i64 (r : Int)) _ (by simp only [Act.put, pA, pB, pC, e7, e9, e10]) ⟨hY.trans (hy.mono hY.size), V.step 11 rfl⟩
        · have e5 := V.at (zdq hd 5 rfl) rfl
          have e11 := V.at (zdq hd 11 rfl) rfl
          go_wp2_with fail
          exact hK _ (.bool true) _ (by simp only [Act.put, pA, pB, pC, e5, e11]) ⟨hY, V.step 12 rfl⟩
      · intro L v W2 hL ⟨hY, V⟩
        have e0 := V.at (hL 0 (by decide)) rfl
        have e1 := V.at (hL 1 (by decide)) rfl
        have e2 := V.at (hL 2 (by decide)) rfl
        have e3 := V.at (hL 3 (by decide)) rfl
        have e4 := V.at (hL 4 (by decide)) rfl
        have e5 := V.at (hL 5 (by decide)) rfl
        have e6 := V.at (hL 6 (by decide)) rfl
        have e7 := V.at (hL 7 (by decide)) rfl
        have e8 := V.at (hL 8 (by decide)) rfl
        have e9 := V.at (hL 9 (by decide)) rfl
        have e10 := V.at (hL 10 (by decide)) rfl
        have e11 := V.at (hL 11 (by decide)) rfl
        have e12 := V.at (hL 12 (by decide)) rfl
        clear hL V
        replace B0 := B0.zw hY
        replace hb := hb.trans (hY.mono hb.size)
        clear hY
        simp only [Exit.then, e0, e1, e2, e3, e4, e5, e6, e7, e8, e9, e10, e11, e12]
        clear e0 e1 e2 e3 e4 e5 e6 e7 e8 e9 e10 e11 e12
        go_wp2_with fail
        go_ret
        exact ⟨by rw [HS.out, sqB_yes hlt HRN.out.symm]; rfl, hb⟩
    · have HNE := Lib.hid (show ((r : Int) == (c : Int)) = false by rw [beq_eq_false_iff_ne]; omega)
      go_upto_region 4 with (fail)
      refine zq Try.mixed (by kernel_rfl) (by kernel_rfl) (fun v => by (simp only [frL, Act.put, pA, pB, pC, Nat.reduceAdd, Nat.zero_add]; exact rfl))
       (fun L v W2 => Below wr.heap.size wr W2 ∧ VF L v [some (.int .i64 (j : Int)), some (.int .i64 (j : Int)), some (.int .i64 ((j : Int) * (j : Int))), some (.pointer (some ⟨w.heap.size, 0, none⟩)), some (.int .i64 (p : Int)), some (.int .i64 (r : Int)), some (.pointer (some ⟨w.heap.size, 0, none⟩)), some (.int .i64 (p : Int)), some (.pointer (some ⟨w.heap.size, 1, none⟩)), some (.agg (zb 64 (D))), some (.int .i64 (x : Int)), some (.int .i64 (c : Int)), some (.bool false)]) ?_ ?_ ?_
      · intro v hv0
        exact ⟨(Below.refl _ wr).drew, VF.start⟩
      · refine (.cons rfl ?_ (.cons rfl ?_ (.cons rfl ?_ (.cons rfl ?_ (.cons rfl ?_ (.cons rfl ?_ (.cons rfl ?_ (.cons rfl ?_ (.cons rfl ?_ (.cons rfl ?_ (.cons rfl ?_ (.cons rfl ?_ (.cons rfl ?_ (.nil _))))))))))))))
        all_goals intro L v W2 hd hn ⟨hY, V⟩ K hK
        · go_wp2_with fail
          exact hK _ (.int .i64 (j : Int)) _ (by simp only [Act.put, pA, pB, pC ]) ⟨hY, V.step 0 rfl⟩
        · go_wp2_with fail
          exact hK _ (.int .i64 (j : Int)) _ (by simp only [Act.put, pA, pB, pC ]) ⟨hY, V.step 1 rfl⟩
        · have e0 := V.at (zdq hd 0 rfl) rfl
          have e1 := V.at (zdq hd 1 rfl) rfl
          go_wp2_with fail
          exact hK _ (.int .i64 ((j : Int) * (j : Int))) _ (by simp only [Act.put, pA, pB, pC, e0, e1]) ⟨hY, V.step 2 rfl⟩
        · go_wp2_with fail
          exact hK _ (.pointer (some ⟨w.heap.size, 0, none⟩)) _ (by simp only [Act.put, pA, pB, pC ]) ⟨hY, V.step 3 rfl⟩
        · have e3 := V.at (zdq hd 3 rfl) rfl
          refine wp_load_rowc 2 _ rfl _ 0 e3 107 _ (B0.zw hY) (.int .i64 (p : Int)) (fdC_at _ _) _ Try.underlying2 rfl ?_
          exact hK _ _ _ rfl ⟨hY, V.step 4 rfl⟩
        · have e2 := V.at (zdq hd 2 rfl) rfl
          have e4 := V.at (zdq hd 4 rfl) rfl
          go_wp2_with fail
          try rw [HR.out]
          exact hK _ (.int .i64 (r : Int)) _ (by simp only [Act.put, pA, pB, pC, e2, e4]) ⟨hY, V.step 5 rfl⟩
        · go_wp2_with fail
          exact hK _ (.pointer (some ⟨w.heap.size, 0, none⟩)) _ (by simp only [Act.put, pA, pB, pC ]) ⟨hY, V.step 6 rfl⟩
        · have e6 := V.at (zdq hd 6 rfl) rfl
          refine wp_load_rowc 2 _ rfl _ 0 e6 107 _ (B0.zw hY) (.int .i64 (p : Int)) (fdC_at _ _) _ Try.underlying2 rfl ?_
          exact hK _ _ _ rfl ⟨hY, V.step 7 rfl⟩
        · go_wp2_with fail
          exact hK _ (.pointer (some ⟨w.heap.size, 1, none⟩)) _ (by simp only [Act.put, pA, pB, pC ]) ⟨hY, V.step 8 rfl⟩
        · have e8 := V.at (zdq hd 8 rfl) rfl
          refine wp_load_mid 23 _ rfl _ 1 e8 _ _ ((B0.zw hY).fd) Try.underlying23 rfl (by rw [zl]; exact Try.size23) ?_
          exact hK _ _ _ rfl ⟨hY, V.step 9 rfl⟩
        · go_wp2_with fail
          exact hK _ (.int .i64 (x : Int)) _ (by simp only [Act.put, pA, pB, pC ]) ⟨hY, V.step 10 rfl⟩
        · have e7 := V.at (zdq hd 7 rfl) rfl
          have e9 := V.at (zdq hd 9 rfl) rfl
          have e10 := V.at (zdq hd 10 rfl) rfl
          go_wp2_with (go_at_call 180; refine (HVA.out _).mono ?_; rintro e wy ⟨rfl, hy⟩)
          exact hK _ (.int .i64 (c : Int)) _ (by simp only [Act.put, pA, pB, pC, e7, e9, e10]) ⟨hY.trans (hy.mono hY.size), V.step 11 rfl⟩
        · have e5 := V.at (zdq hd 5 rfl) rfl
          have e11 := V.at (zdq hd 11 rfl) rfl
          go_wp2_with fail
          rw [HNE.out]
          exact hK _ (.bool false) _ (by simp only [Act.put, pA, pB, pC, e5, e11]) ⟨hY, V.step 12 rfl⟩
      · intro L v W2 hL ⟨hY, V⟩
        have e0 := V.at (hL 0 (by decide)) rfl
        have e1 := V.at (hL 1 (by decide)) rfl
        have e2 := V.at (hL 2 (by decide)) rfl
        have e3 := V.at (hL 3 (by decide)) rfl
        have e4 := V.at (hL 4 (by decide)) rfl
        have e5 := V.at (hL 5 (by decide)) rfl
        have e6 := V.at (hL 6 (by decide)) rfl
        have e7 := V.at (hL 7 (by decide)) rfl
        have e8 := V.at (hL 8 (by decide)) rfl
        have e9 := V.at (hL 9 (by decide)) rfl
        have e10 := V.at (hL 10 (by decide)) rfl
        have e11 := V.at (hL 11 (by decide)) rfl
        have e12 := V.at (hL 12 (by decide)) rfl
        clear hL V
        replace B0 := B0.zw hY
        replace hb := hb.trans (hY.mono hb.size)
        clear hY
        simp only [Exit.then, e0, e1, e2, e3, e4, e5, e6, e7, e8, e9, e10, e11, e12]
        clear e0 e1 e2 e3 e4 e5 e6 e7 e8 e9 e10 e11 e12
        go_wp2_with fail
        go_roundw
        case rel => exact ⟨j + 1, by go_num, by omega, Lib.hid (fun i hi => by
         by_cases h2 : i = j
         · subst h2; rw [← HRN.out]; exact hrc
         · exact hN.out i (by omega)), hb, B0⟩
        case measure => simp [intOf] <;> omega
  · have hlt2 : ¬ (j : Int) < (p : Int) := by omega
    obtain rfl : j = p := by omega
    go_wp2_with fail
    go_ret
    exact ⟨by rw [HS.out, sqB_no hN.out]; rfl, hb⟩
end Go.Proofs.Ytoncepgcfifgbaa
end
section
namespace Go.Proofs.Ytoncepgcfifgbaa
open Go Go.RowKit
set_option linter.unusedVariables false
set_option linter.unusedSimpArgs false
theorem Try.infoFrm : (Try.prog.info? 55).map (fun i => (i.zero, i.size, i.bytes)) = some (some (.agg (frC (fun _ => 0) (fun _ => 0)).toArray), 128, 128) := by unfold frC bl; kernel_rfl
theorem frC_ones (A B : Nat → Nat) : ∀ u ∈ frC A B, u.oneCell' = true := fun u hu => by
 have := Array.all_eq_true_iff_forall_mem.1 (frC_all A B) u (by simpa using hu)
 exact this
theorem Blk.grownE {w w' : World} {b n : Nat} {t : TypeId} {f : Nat → Nat} (h : Blk w b n t f) {base : Nat} {e : TypeId} {size : Nat} {v : Value} {cs : List (List Value)} (ho : SlL w base e size v cs) (hg : w.grownBy w' v.ownBlock) (hne : t ≠ e) : Blk w' b n t f := by
 have hl := h.lt
 unfold Blk at *
 rw [hg.block b hl (fun x => by
  obtain ⟨cur, hc⟩ := ho.ownCells b x.symm
  rw [h] at hc
  injection hc with hc
  injection hc with _ hc
  exact hne hc)]
 exact h
theorem Row.grownE {w w' : World} {b : Nat} {t : TypeId} {c : Array Value} (h : Row w b t c) {base : Nat} {e : TypeId} {size : Nat} {v : Value} {cs : List (List Value)} (ho : SlL w base e size v cs) (hg : w.grownBy w' v.ownBlock) (hne : t ≠ e) : Row w' b t c := by
 have hl := h.lt
 unfold Row at *
 rw [hg.block b hl (fun x => by
  obtain ⟨cur, hc⟩ := ho.ownCells b x.symm
  rw [h] at hc
  injection hc with hc
  injection hc with _ hc
  exact hne hc)]
 exact h
theorem One.grownE {w w' : World} {b : Nat} {t : TypeId} {v' : Value} (h : One w b t v') {base : Nat} {e : TypeId} {size : Nat} {v : Value} {cs : List (List Value)} (ho : SlL w base e size v cs) (hg : w.grownBy w' v.ownBlock) (hne : t ≠ e) : One w' b t v' := by
 have hl := h.lt
 unfold One at *
 rw [hg.block b hl (fun x => by
  obtain ⟨cur, hc⟩ := ho.ownCells b x.symm
  rw [h] at hc
  injection hc with hc
  injection hc with _ hc
  exact hne hc)]
 exact h
/-- the forms with A, B by the numbers before l -/
noncomputable def rowF (p : Nat) (D A : Nat → Nat) (l : Nat) : List ((Nat → Nat) × (Nat → Nat)) := ((List.range l).filter fun k => fmB (p : Int) D A (ofN p k)).map fun k => (A, ofN p k)
theorem rowF_z (p : Nat) (D A : Nat → Nat) : rowF p D A 0 = [] := rfl
theorem rowF_yes {p l : Nat} {D A : Nat → Nat} (h : fmB (p : Int) D A (ofN p l) = true) : rowF p D A (l + 1) = rowF p D A l ++ [(A, ofN p l)] := by
 unfold rowF; rw [List.range_succ, List.filter_append, List.map_append]; simp [h]
theorem rowF_no {p l : Nat} {D A : Nat → Nat} (h : fmB (p : Int) D A (ofN p l) = false) : rowF p D A (l + 1) = rowF p D A l := by
 unfold rowF; rw [List.range_succ, List.filter_append, List.map_append]; simp [h]
theorem rowF_none {p : Nat} {D A : Nat → Nat} (h : ∀ k, fmB (p : Int) D A (ofN p k) = false) (l : Nat) : rowF p D A l = [] := by
 unfold rowF
 rw [List.map_eq_nil_iff, List.filter_eq_nil_iff]
 intro k _
 rw [h k]; exact Bool.false_ne_true
theorem rowF_len (p : Nat) (D A : Nat → Nat) (l : Nat) : (rowF p D A l).length ≤ l := by
 unfold rowF
 rw [List.length_map]
 exact Nat.le_trans (List.length_filter_le _ _) (by rw [List.length_range]; exact Nat.le_refl _)
noncomputable def degF (p : Nat) (D : Nat → Nat) (n j : Nat) : List ((Nat → Nat) × (Nat → Nat)) := (List.range j).flatMap fun i => rowF p D (ofN p (p ^ n + i)) (p ^ n)
theorem degF_z (p : Nat) (D : Nat → Nat) (n : Nat) : degF p D n 0 = [] := rfl
theorem degF_s (p : Nat) (D : Nat → Nat) (n j : Nat) : degF p D n (j + 1) = degF p D n j ++ rowF p D (ofN p (p ^ n + j)) (p ^ n) := by unfold degF; rw [List.range_succ, List.flatMap_append]; simp
theorem degF_len (p : Nat) (D : Nat → Nat) (n : Nat) : ∀ j, (degF p D n j).length ≤ j * p ^ n
 | 0 => by rw [degF_z]; simp
 | j + 1 => by
  have h1 := degF_len p D n j
  have h2 := rowF_len p D (ofN p (p ^ n + j)) (p ^ n)
  rw [degF_s, List.length_append, Nat.succ_mul]; omega
noncomputable def allF (p : Nat) (D : Nat → Nat) (t : Nat) : List ((Nat → Nat) × (Nat → Nat)) := (List.range t).flatMap fun n => degF p D n (p ^ n)
theorem allF_z (p : Nat) (D : Nat → Nat) : allF p D 0 = [] := rfl
theorem allF_s (p : Nat) (D : Nat → Nat) (t : Nat) : allF p D (t + 1) = allF p D t ++ degF p D t (p ^ t) := by unfold allF; rw [List.range_succ, List.flatMap_append]; simp
theorem pow2_le {p n : Nat} (hp : p ≤ 7) (hn : n ≤ 2) : p ^ n ≤ 49 := by
 have h1 : p ^ n ≤ 7 ^ n := Nat.pow_le_pow_left hp n
 have h2 : 7 ^ n ≤ 7 ^ 2 := Nat.pow_le_pow_right (by decide) hn
 have h3 : (7 : Nat) ^ 2 = 49 := by decide
 omega
theorem allF_len {p : Nat} (D : Nat → Nat) (hp : p ≤ 7) : ∀ t, t ≤ 3 → (allF p D t).length ≤ 2452 ∧ (t ≤ 2 → (allF p D t).length ≤ 50) := by
 have d0 := degF_len p D 0 (p ^ 0)
 have d1 := degF_len p D 1 (p ^ 1)
 have d2 := degF_len p D 2 (p ^ 2)
 have e0 : p ^ 0 = 1 := Nat.pow_zero p
 have e1 : p ^ 1 ≤ 7 := by rw [Nat.pow_one]; exact hp
 have e2 := pow2_le (n := 2) hp (by omega)
 have m1 : p ^ 1 * p ^ 1 ≤ 7 * 7 := Nat.mul_le_mul e1 e1
 have m2 : p ^ 2 * p ^ 2 ≤ 49 * 49 := Nat.mul_le_mul e2 e2
 rw [e0] at d0
 intro t ht
 rcases (by omega : t = 0 ∨ t = 1 ∨ t = 2 ∨ t = 3) with rfl | rfl | rfl | rfl
 · rw [allF_z]; simp
 · rw [allF_s, allF_z, e0, List.length_append]
   simp only [List.length_nil]
   omega
 · rw [allF_s, allF_s, allF_z, e0, List.length_append, List.length_append]
   simp only [List.length_nil]
   omega
 · rw [allF_s, allF_s, allF_s, allF_z, e0, List.length_append, List.length_append, List.length_append]
   simp only [List.length_nil]
   omega
/-- lists under way -/
theorem run_len {p n j k : Nat} (D A : Nat → Nat) (hp : p ≤ 7) (hn : n ≤ 2) (hj : j < p ^ n) (hk : k ≤ p ^ n) : (allF p D n ++ (degF p D n j ++ rowF p D A k)).length ≤ 2900 := by
 have h1 := (allF_len D hp n (by omega)).2 hn
 have h2 := degF_len p D n j
 have h3 := rowF_len p D A k
 have h4 := pow2_le hp hn
 have h5 : j * p ^ n ≤ 49 * 49 := Nat.mul_le_mul (by omega) h4
 rw [List.length_append, List.length_append]
 omega
theorem ofN_sm {p d N k : Nat} (hp : 2 ≤ p) (h : N < p ^ d) (hk : d ≤ k) : ofN p N k = 0 := by
 have h1 : p ^ d ≤ p ^ k := Nat.pow_le_pow_right (by omega) hk
 unfold ofN dgt
 rw [Nat.div_eq_of_lt (by omega), Nat.zero_mod]
/-- a list whose block lies before top -/
def SlU (w : World) (base top : Nat) (e : TypeId) (size : Nat) (v : Value) (cs : List (List Value)) : Prop := SlT w base top e size v cs ∧ top ≤ w.heap.size
theorem SlL.toU {w : World} {base : Nat} {e : TypeId} {size : Nat} {v : Value} {cs : List (List Value)} (h : SlL w base e size v cs) : SlU w base w.heap.size e size v cs := ⟨h.top, Nat.le_refl _⟩
theorem SlU.lt {w : World} {base top : Nat} {e : TypeId} {size : Nat} {v : Value} {cs : List (List Value)} (h : SlU w base top e size v cs) : top ≤ w.heap.size := h.2
theorem SlU.alloc {w : World} {base top : Nat} {e : TypeId} {size : Nat} {v : Value} {cs : List (List Value)} (h : SlU w base top e size v cs) (o : Obj) : SlU (w.alloc o) base top e size v cs := ⟨h.1.alloc o, by have := h.2; simp; omega⟩
theorem SlU.drew {w : World} {base top : Nat} {e : TypeId} {size : Nat} {v : Value} {cs : List (List Value)} (h : SlU w base top e size v cs) : SlU w.drew base top e size v cs := ⟨h.1.drew, h.2⟩
theorem SlU.below {w w' : World} {base top : Nat} {e : TypeId} {size : Nat} {v : Value} {cs : List (List Value)} (h : SlU w base top e size v cs) (hb : Below w.heap.size w w') (_ : top ≤ w.heap.size) : SlU w' base top e size v cs := ⟨h.1.below hb h.1.lt, Nat.le_trans h.2 hb.size⟩
theorem SlU.zw {w w' : World} {base top : Nat} {e : TypeId} {size : Nat} {v : Value} {cs : List (List Value)} (h : SlU w base top e size v cs) (hb : Below w.heap.size w w') : SlU w' base top e size v cs := SlU.below h hb (SlU.lt h)
theorem SlU.rowOther {w : World} {base top : Nat} {e : TypeId} {size : Nat} {v : Value} {cs : List (List Value)} (h : SlU w base top e size v cs) {k : Nat} {xs : Array Value} (hk : top ≤ k) : SlU (w.setRow k xs) base top e size v cs := ⟨h.1.rowOther (.inr hk), by have := h.2; simpa [World.setRow] using this⟩
theorem SlU.setOther {w : World} {base top : Nat} {e : TypeId} {size : Nat} {v x : Value} {cs : List (List Value)} (h : SlU w base top e size v cs) {a : Addr} (ha : top ≤ a.block) : SlU (w.setCell a x) base top e size v cs := ⟨h.1.setOther (.inr ha), by have := h.2; simpa using this⟩
theorem fm_skip {p x : Nat} {D A B : Nat → Nat} (hpr : p = 2 ∨ p = 3 ∨ p = 5 ∨ p = 7) (lD : ∀ k, k < 64 → D k < p) (hx : x < p) (h0 : hrN p x A 64 = 0) (hs : sqB p (hrN p x D 64) = false) : fmB (p : Int) D A B = false := by
 cases h : fmB (p : Int) D A B with
 | false => rfl
 | true =>
  have hf := fmB_out hpr h
  have h3 := hf.2.2.1
  obtain ⟨n, h4, h5⟩ := h3
  have h6 := hf.2.2.2.1
  have h7 := root_sq hpr hx lD (by rw [h4.1] at h6; omega) hf.2.2.2.2 h0
  rw [sqB_yes (hrN_lt p x B 64 (by omega)) h7] at hs
  exact absurd hs (by decide)
end Go.Proofs.Ytoncepgcfifgbaa
end
section
namespace Go.Proofs.Ytoncepgcfifgbaa
open Go Go.RowKit
set_option linter.unusedVariables false
set_option linter.unusedSimpArgs false
theorem run_append_none {P : Program} (w : World) (t ty e : TypeId) (i : TypeInfo) (ht : P.underlying t = some (.slice e)) (hi : P.info? e = some i) (b : Addr) (n cap : Nat) (h : n ≤ cap) :
 (Builtin.append_ #[t, t] ty #[.slice (some b) n cap, .slice none 0 0]).run P w = .ok (.slice (some b) n cap) w := by
 simp [Builtin.append_, run_underlying ht, Go.sizeOf, typeInfo, hi, Builtin.lenOf, h, Builtin.firstCells, loadCells, loadCellsFrom, storeCells]
theorem run_append_none0 {P : Program} (w : World) (t ty e : TypeId) (i : TypeInfo) (ht : P.underlying t = some (.slice e)) (hi : P.info? e = some i) :
 (Builtin.append_ #[t, t] ty #[.slice none 0 0, .slice none 0 0]).run P w = .ok (.slice none 0 0) w := by
 simp [Builtin.append_, run_underlying ht, Go.sizeOf, typeInfo, hi, Builtin.lenOf, Builtin.firstCells, loadCells, loadCellsFrom, storeCells]
/-- append of a list -/
theorem wpList_append_sls {P : Program} (w : World) {ops : Array Oper} {rest : List Oper} {o : Oper} {a : Act} {Q : Exit → Act → World → Prop}
 (hg : o.guard = none) (s x : Operand) (t : TypeId) (hop : o.op = Op.call { callee := Callee.builtin Builtin.append, args := #[s, x], argTypes := #[t, t] })
 (base base2 : Nat) (e : TypeId) (z : Value) (size bytes : Nat) (h1 : P.underlying t = some (.slice e)) (h2 : (P.info? e).map (fun i => (i.zero, i.size, i.bytes)) = some (some z, size, bytes)) (h6 : z.cells.size = size) (h7 : 0 < size)
 (v v2 : Value) (cs cs2 : List (List Value)) (hs : a.eval s = v) (hown : SlL w base e size v cs) (hx : a.eval x = v2) (hown2 : SlL w base2 e size v2 cs2)
 (h1c : ∀ c ∈ cs2, ∀ u ∈ c, u.oneCell' = true) (b1 : cs.length + cs2.length ≤ maxLen) (b2 : (cs.length + cs2.length) * bytes ≤ 140737488355328)
 (hK : ∀ v' w', SlL w' base e size v' (cs ++ cs2) → w.grownBy w' v.ownBlock → wpList P ops Q rest (a.put o.dst v') w') : wpList P ops Q (o :: rest) a w := by
 obtain ⟨i0, hi, hz0, hz1, hz2⟩ := info_parts h2
 have d1 : base ≤ w.heap.size ∧ (∀ c ∈ cs, c.length = size) ∧ w.ownsRow base e size v cs.length cs.flatten := by delta SlL at hown; exact hown
 have d2 : base2 ≤ w.heap.size ∧ (∀ c ∈ cs2, c.length = size) ∧ w.ownsRow base2 e size v2 cs2.length cs2.flatten := by delta SlL at hown2; exact hown2
 rcases d2.2.2.2 with ⟨rfl, hl0⟩ | ⟨g, cap, cur, rfl, hbg, hgc, hnc, hcm, hcs, htake⟩
 · obtain rfl : cs2 = [] := List.eq_nil_of_length_eq_zero hl0
   refine wpList_plain hg fun _ hK' => ?_
   have hr : (Builtin.append_ #[t, t] o.type #[v, .slice none 0 0]).run P w = .ok v w := by
    rcases d1.2.2.2 with ⟨rfl, _⟩ | ⟨g, cap, cur, rfl, _, _, hnc, _⟩
    · exact run_append_none0 w t o.type e i0 h1 hi
    · exact run_append_none w t o.type e i0 h1 hi ⟨g, 0, none⟩ _ cap hnc
   unfold Oper.wp execOp
   simp only [hop, resolve, invoke, builtin, Sem.run_bind, Sem.run_pure, Result.andThen_ok, List.map_toArray, List.map_cons, List.map_nil, hs, hx, hr]
   exact hK' _ _ (hK v w (by rw [List.append_nil]; exact hown) ⟨rfl, rfl, rfl, Nat.le_refl _, fun _ _ _ => rfl⟩)
 · refine wpList_append_own w hg s x t hop base e i0 z size bytes h1 hi hz0 hz1 hz2 h6 h7 v cs.length cs.flatten hs d1.2.2 ⟨g, 0, none⟩ cs2.length cap cs2.flatten hx d2.2.2.1 (fun j u hu => d2.2.2.cells (g := g) rfl j u hu) (fun u hu => ?_) b1 b2 d1.1 ?_
   · obtain ⟨c, hc, hu⟩ := List.mem_flatten.1 hu
     exact h1c c hc u hu
   · intro v' w' h1' h2' _
     refine hK v' w' ?_ h2'
     delta SlL
     refine ⟨Nat.le_trans d1.1 h2'.size, fun d hd => ?_, by simpa using h1'⟩
     rcases List.mem_append.1 hd with h | h
     · exact d1.2.1 d h
     · exact d2.2.1 d h
theorem frRows_ones (L : List ((Nat → Nat) × (Nat → Nat))) : ∀ c ∈ frRows L, ∀ u ∈ c, u.oneCell' = true := fun c hc u hu => by
 unfold frRows at hc
 obtain ⟨x, _, rfl⟩ := List.mem_map.1 hc
 exact frC_ones _ _ u hu
theorem frRows_app (L M : List ((Nat → Nat) × (Nat → Nat))) : frRows (L ++ M) = frRows L ++ frRows M := by unfold frRows; rw [List.map_append]
end Go.Proofs.Ytoncepgcfifgbaa
end
section
namespace Go.Proofs.Ytoncepgcfifgbaa
open Go Go.RowKit
set_option linter.unusedVariables false
set_option linter.unusedSimpArgs false
attribute [local irreducible] deg invN quoP resP prd bzD bzU bzW sqP ofN rowF degF allF frC
set_option maxRecDepth 100000 in
set_option maxHeartbeats 3200000 in
theorem l07All_any (p g : Nat) (D : Nat → Nat) (w : World) (hpr : p = 2 ∨ p = 3 ∨ p = 5 ∨ p = 7) (lD : ∀ k, k < 64 → D k < p) (hD : deg D = ((2 * g + 1 : Nat) : Int)) (hg : g ≤ 2) :
 Calls Try.prog 131 #[.int .i64 (p : Int), .agg (zb 64 D)] w fun e w' => ∃ v, e = .returned v ∧ SlL w' w.heap.size 55 128 v (frRows (allF p D (g + 1))) ∧ Below w.heap.size w w' := by
 have p2 : 2 ≤ p := by omega
 have p7 : p ≤ 7 := by omega
 have HGN := Lib.hid (fun W => l07Genus_any g D W hD)
 have HFM := Lib.hid (fun A B (hA : byte A) (hB : byte B) W => l07Form_any p D A B W hpr lD hA hB)
 clear hD lD hpr
 go_enter Try.func131, Try.ntmps131
 go_upto_region 1 with (fail)
 obtain ⟨W1, hwo⟩ : ∃ v : World, v = (w.alloc (.cells (zb 64 (D)) 23)) := ⟨_, rfl⟩
 have B0 : Blk W1 (w.heap.size) 64 23 (D) := by subst hwo; have := (Blk.new w 64 23 (D)); simpa using this
 have hb : Below w.heap.size w W1 := by subst hwo; exact ((Below.refl _ _).alloc (Nat.le_refl _) _)
 rw [← hwo]
 clear hwo
 obtain ⟨base, hbase0⟩ : ∃ b, b = W1.heap.size := ⟨_, rfl⟩
 have ybw : w.heap.size ≤ base := by rw [hbase0]; exact hb.size
 have hS0 : SlL (W1.alloc (.cells #[] 55)) base 55 128 (.slice (some ⟨W1.heap.size, 0, none⟩) 0 0) [] := slL_empty W1 55 128 (Nat.le_of_eq hbase0)
 have hb1 : Below w.heap.size w (W1.alloc (.cells #[] 55)) := hb.alloc hb.size _
 replace B0 := B0.alloc (.cells #[] 55)
 clear hb hbase0
 go_wp2_with fail
 go_loopw [5, 6] (fun s i wr => ∃ (n : Nat) (lst : Value), lst = s ∧ i = .int .i64 (n : Int) ∧ n ≤ g + 1 ∧ Below w.heap.size w wr ∧ Blk wr (w.heap.size) 64 23 D ∧ SlL wr base 55 128 lst (frRows (allF p D n))) (fun _ i _ => g + 1 - (intOf i).toNat)
 case atStart => exact ⟨0, _, rfl, rfl, Nat.zero_le _, hb1, B0, by rw [allF_z]; exact hS0⟩
 case round =>
  clear hb1 hS0 B0
  obtain ⟨n, lst, rfl, rfl, hng, hb, B0, hS⟩ := hrel
  by_cases hn : n ≤ g
  · have hni : (n : Int) ≤ (g : Int) := by omega
    have hn2 : n ≤ 2 := by omega
    obtain ⟨Q, hQ⟩ : ∃ Q, Q = p ^ n := ⟨_, rfl⟩
    have HC := Lib.hid (fun W => l01Count_any p n W p2 p7 (by omega))
    rw [← hQ] at HC
    have hQ49 : Q ≤ 49 := by rw [hQ]; exact pow2_le p7 hn2
    have HQ := Lib.hid hQ
    clear hQ
    have B1 := hS.toU
    clear hS
    go_upto_region 5 with (first | (refine zla (.tmp 3) B0 Try.underlying23 Try.size23 ?_) | (go_at_call 165; refine (HGN.out _).mono ?_; rintro e W2 ⟨rfl, hW2⟩; replace B0 := B0.zw hW2; replace B1 := B1.zw hW2; replace hb := (hb).trans (hW2.mono (hb).size)))
    go_upto_region 6 with (fail)
    have hS := B1.1.1
    go_loopw [5, 7] (fun s i wr => ∃ (j : Nat) (lst : Value), lst = s ∧ i = .int .i64 (j : Int) ∧ j ≤ Q ∧ Below w.heap.size w wr ∧ Blk wr (w.heap.size) 64 23 D ∧ SlL wr base 55 128 lst (frRows (allF p D n ++ degF p D n j))) (fun _ i _ => Q - (intOf i).toNat)
    case atStart => exact ⟨0, lst, rfl, rfl, Nat.zero_le _, hb, B0, by rw [degF_z, List.append_nil]; exact hS⟩
    case round =>
     clear hb hS B0 B1
     obtain ⟨j, lst, rfl, rfl, hjQ, hb, B0, hS⟩ := hrel
     by_cases hj : j < Q
     · have hji : (j : Int) < (Q : Int) := by omega
       have HOF := Lib.hid (fun W => l01Of_any p j W p2 p7 (by omega))
       have HPL := Lib.hid (fun k => ofN_plus (p := p) (n := n) (j := j) p2 (by rw [← HQ.out]; exact hj) k)
       obtain ⟨A, hA⟩ : ∃ A, A = ofN p (Q + j) := ⟨_, rfl⟩
       rw [← HQ.out, ← hA] at HPL
       have hAp : ∀ k, A k < p := by rw [hA]; exact fun k => ofN_lt (by omega) _ k
       have hn8 : n < 64 := by omega
       have HAQ := Lib.hid (show A = ofN p (p ^ n + j) by rw [hA, HQ.out])
       clear hA
       have B2 := hS.toU
       clear hS
       go_upto_region 8 with (first | (go_at_call 99; refine (HC.out _).mono ?_; rintro e wS ⟨rfl, rfl⟩))
       have lt_B0 := B0.lt
       have lt_B2 := B2.lt
       go_upto_region 9 with (first | rw [← z64] | (go_at_call 100; refine (HOF.out _).mono ?_; rintro e W3 ⟨rfl, hW3⟩; replace B0 := B0.zw hW3; replace B2 := B2.zw hW3; replace hb := (hb).trans (hW3.mono (hb).size)) | (refine wpList_store_blk rfl 23 (.tmp 8) (.tmp 27) rfl _ 64 (ofN p j) rfl rfl 23 _ ((Blk.new W3 64 23 (fun _ => 0))) Try.size23 ?_; try simp only [Act.put]))
       have lt_B0 := B0.lt
       have lt_B2 := B2.lt
       have lhb := hb.size
       obtain ⟨W4, hwo, hzQ⟩ : ∃ v : World, v = ((W3.alloc (.cells (zb 64 (fun _ => 0)) 23)).setRow (W3.heap.size) (zb 64 (ofN p j))) ∧ Blk v (w.heap.size) 64 23 (D) ∧ SlU v base wr.heap.size 55 128 lst (frRows (allF p D n ++ degF p D n j)) ∧ Blk v (W3.heap.size) 64 23 (ofN p j) ∧ Below w.heap.size w v := ⟨_, rfl, ((B0.alloc (.cells (zb 64 (fun _ => 0)) 23)).rowOther (by omega)), ((B2.alloc (.cells (zb 64 (fun _ => 0)) 23)).rowOther (by omega)), ((Blk.new W3 64 23 (fun _ => 0)).row (ofN p j)), (zr (hb.alloc (by have := hb.size; simp; omega) (.cells (zb 64 (fun _ => 0)) 23)) (by omega) _)⟩
       rw [← hwo]
       clear hwo B0 B2 hb
       obtain ⟨B0, B2, B3, hb⟩ := hzQ
       obtain ⟨N1, hNN⟩ : ∃ n : Nat, n = W3.heap.size := ⟨_, rfl⟩
       rw [← hNN] at lt_B0 lt_B2 lhb B3 ⊢
       clear hNN
       have zN1_0 := lt_B0
       have zN1_2 := lt_B2
       have zN1 := lhb
       clear lt_B0 lt_B2 lhb
       try simp only [Act.put, pA, pB, pC]
       clear HOF
       have cc := B3.cell (i := n) hn8
       have zz := B3.frozen n
       go_upto_region 10 with (fail)
       clear cc zz
       have lt_B0 := B0.lt
       have lt_B2 := B2.lt
       have lt_B3 := B3.lt
       have qB0 : Blk (W4.setCell ⟨N1, n, none⟩ (.int .u8 (1))) (w.heap.size) 64 23 (D) := (B0.setOther (by show (w.heap.size) ≠ (N1); omega))
       have qB2 : SlU (W4.setCell ⟨N1, n, none⟩ (.int .u8 (1))) base wr.heap.size 55 128 lst (frRows (allF p D n ++ degF p D n j)) := (B2.setOther (by dsimp only; omega))
       have qB3 : Blk (W4.setCell ⟨N1, n, none⟩ (.int .u8 (1))) (N1) 64 23 (A) := ((B3.set (v := 1) (rfl)).congr (fun k _ => HPL.out k))
       have qhb : Below w.heap.size w (W4.setCell ⟨N1, n, none⟩ (.int .u8 (1))) := (hb.setCell (by show w.heap.size ≤ (N1); omega) _)
       obtain ⟨W5, hwo⟩ : ∃ v : World, v = (W4.setCell ⟨N1, n, none⟩ (.int .u8 (1))) := ⟨_, rfl⟩
       rw [← hwo] at qB0 qB2 qB3 qhb ⊢
       clear hwo
       clear B0 B2 B3 hb
       have B0 := qB0
       have B2 := qB2
       have B3 := qB3
       have hb := qhb
       clear qB0 qB2 qB3 qhb
       try simp only [Act.put, pA, pB, pC]
       go_upto_region 11 with (fail)
       have hS := B2.1.1
       clear HPL hn8
       obtain ⟨N8, hN8⟩ : ∃ x, x = N1 := ⟨_, rfl⟩
       rw [← hN8] at B3 ⊢
       go_loopw [5, 9] (fun s i wr => ∃ (k : Nat) (lst : Value), lst = s ∧ i = .int .i64 (k : Int) ∧ k ≤ Q ∧ Below w.heap.size w wr ∧ Blk wr (w.heap.size) 64 23 D ∧ Blk wr N8 64 23 A ∧ SlL wr base 55 128 lst (frRows (allF p D n ++ (degF p D n j ++ rowF p D A k)))) (fun _ i _ => Q - (intOf i).toNat)
       case atStart => exact ⟨0, lst, rfl, rfl, Nat.zero_le _, hb, B0, B3, by rw [rowF_z, List.append_nil]; exact hS⟩
       case round =>
        clear hb hS B0 B3 B2 hN8
        obtain ⟨k, lst, rfl, rfl, hkQ, hb, B0, B3, hS⟩ := hrel
        by_cases hk : k < Q
        · have hki : (k : Int) < (Q : Int) := by omega
          have HOF := Lib.hid (fun W => l01Of_any p k W p2 p7 (by omega))
          obtain ⟨B, hB⟩ : ∃ B, B = ofN p k := ⟨_, rfl⟩
          rw [← hB] at HOF
          have hBp : ∀ k, B k < p := by rw [hB]; exact fun k => ofN_lt (by omega) _ k
          have HF2 := Lib.hid (fun W => HFM.out A B (fun k => by have := hAp k; omega) (fun k => by have := hBp k; omega) W)
          have HB := Lib.hid hB
          have hlen : (allF p D n ++ (degF p D n j ++ rowF p D A k)).length ≤ 2900 := run_len D A p7 hn2 (by rw [← HQ.out]; exact hj) (by rw [← HQ.out]; exact hkQ)
          clear hB hBp
          obtain ⟨c, hc⟩ : ∃ c, c = fmB (p : Int) D A B := ⟨_, rfl⟩
          rw [← hc] at HF2
          have HCC := Lib.hid hc
          clear hc
          have B4 := hS.toU
          clear hS
          go_upto_region 13 with (first | (go_at_call 99; refine (HC.out _).mono ?_; rintro e wS ⟨rfl, rfl⟩))
          have lt_B0 : (w.heap.size) < wr.heap.size := B0.lt
          have lt_B3 : (N8) < wr.heap.size := B3.lt
          have lt_B4 : (wr.heap.size) ≤ wr.heap.size := B4.lt
          refine zq Try.mixed (by kernel_rfl) (by kernel_rfl) (fun v => by (simp only [frL, Act.put, pA, pB, pC, Nat.reduceAdd, Nat.zero_add]; exact rfl))
           (fun L v W6 => Below wr.heap.size wr W6 ∧ (L 5 = true → AR (v 5) W6 wr.heap.size 128 55) ∧ (L 6 = true → PR (v 5) W6 wr.heap.size 55 (frC A B).toArray) ∧ VF L v [some (.agg (zb 64 (A))), some (.int .i64 (p : Int)), some (.int .i64 (k : Int)), some (.agg (zb 64 (B))), some (.agg (frC A B).toArray), none, none]) ?_ ?_ ?_
          · intro v hv0
            exact ⟨(Below.refl _ wr).drew, (fun h => by cases h), (fun h => by cases h), VF.start⟩
          · refine (.cons rfl ?_ (.cons rfl ?_ (.cons rfl ?_ (.cons rfl ?_ (.cons rfl ?_ (.cons rfl ?_ (.cons rfl ?_ (.nil _))))))))
            all_goals intro L v W6 hd hn ⟨hY, h5, h6, V⟩ K hK
            · refine zlc (B3.zw hY) Try.underlying23 Try.size23 ?_
              exact hK _ _ _ rfl ⟨hY, h5, h6, V.step 0 rfl⟩
            · go_wp2_with fail
              exact hK _ (.int .i64 (p : Int)) _ (by simp only [Act.put, pA, pB, pC ]) ⟨hY, h5, h6, V.step 1 rfl⟩
            · go_wp2_with fail
              exact hK _ (.int .i64 (k : Int)) _ (by simp only [Act.put, pA, pB, pC ]) ⟨hY, h5, h6, V.step 2 rfl⟩
            · have e1 := V.at (zdq hd 1 rfl) rfl
              have e2 := V.at (zdq hd 2 rfl) rfl
              go_wp2_with (go_at_call 100; refine (HOF.out _).mono ?_; rintro e wy ⟨rfl, hy⟩)
              exact hK _ (.agg (zb 64 (B))) _ (by simp only [Act.put, pA, pB, pC, e1, e2]) ⟨hY.trans (hy.mono hY.size), (fun h => (h5 h).belowR hy), (fun h => (h6 h).belowR hy), V.step 3 rfl⟩
            · have e0 := V.at (zdq hd 0 rfl) rfl
              have e3 := V.at (zdq hd 3 rfl) rfl
              refine wp_build_of 55 _ rfl (frC A B).toArray (by rw [Array.toList_map]; simp only [e0, e3, Act.eval]; exact built_fr _ _) ?_
              exact hK _ _ _ rfl ⟨hY, h5, h6, V.step 4 rfl⟩
            · go_wp2_with fail
              rw [← frC_zero]
              exact hK _ (.pointer (some ⟨W6.heap.size, 0, none⟩)) _ (by simp only [Act.put, pA, pB, pC ]) ⟨hY.alloc hY.size _, (fun _ => (PR.newR W6 55 _ hY.size).ar (by simp [frC_len])), (fun h => absurd rfl (hn 6 _ rfl h ⟨5, .data⟩ (by simp) rfl)), V.skip 5 rfl⟩
            · have e4 := V.at (zdq hd 4 rfl) rfl
              obtain ⟨gz, b, ea, hN, hgz, hk⟩ := (h5 (zdq hd 5 rfl)).outR
              refine wp_store_rowv 55 _ _ rfl b ea (frC A B).toArray e4 55 gz hk 128 Try.size55 hgz (by simp [frC_len]) (frC_all _ _) ?_
              exact hK _ undef _ rfl ⟨zr hY hN _, (fun h => (h5 h).rowR hk _ (by simp [frC_len])), (fun _ => by rw [show updV v 6 undef 5 = v 5 from rfl, ea]; exact PR.rowR hk hN _), V.skip 6 rfl⟩
          · intro L v W6 hL ⟨hY, h5, h6, V⟩
            obtain ⟨k13_5, e5, hNk13_5, hk13_5⟩ := (h6 (hL 6 (by decide))).outR
            have e0 := V.at (hL 0 (by decide)) rfl
            have e1 := V.at (hL 1 (by decide)) rfl
            have e2 := V.at (hL 2 (by decide)) rfl
            have e3 := V.at (hL 3 (by decide)) rfl
            have e4 := V.at (hL 4 (by decide)) rfl
            clear hL h5 h6 V
            replace B0 := B0.zw hY
            replace B3 := B3.zw hY
            replace B4 := B4.zw hY
            replace hb := hb.trans (hY.mono hb.size)
            clear hY
            simp only [Exit.then, e5, e0, e1, e2, e3, e4]
            clear e5 e0 e1 e2 e3 e4
            have B5 := hk13_5
            clear hk13_5
            have zk13_5_0 : w.heap.size < k13_5 := by omega
            have zk13_5_3 : N8 < k13_5 := by omega
            have zk13_5_4 : wr.heap.size ≤ k13_5 := by omega
            clear lt_B0 lt_B3 lt_B4
            go_upto_region 14 with (fail)
            cases c with
            | true =>
             go_upto_region 15 with (first | (refine zla (.tmp 3) B0 Try.underlying23 Try.size23 ?_) | (refine zlr rfl 55 (.tmp 10) rfl _ rfl 55 (frC A B).toArray (B5) _ Try.underlying55 rfl 128 Try.size55 (by simp [frC_len]) ?_) | (go_at_call 125; refine (HF2.out _).mono ?_; rintro e W7 ⟨rfl, hW7⟩; replace B0 := B0.zw hW7; replace B3 := B3.zw hW7; replace B4 := B4.zw hW7; replace B5 := B5.zw hW7; replace hb := (hb).trans (hW7.mono (hb).size)))
             go_wp2_with (first | (refine zlr rfl 55 (.tmp 10) rfl _ rfl 55 (frC A B).toArray B5 _ Try.underlying55 rfl 128 Try.size55 (by simp [frC_len]) ?_) | (refine wpList_build1 rfl 61 _ (frC A B) 128 rfl 55 Try.underlying61 Try.elem55 (by decide) (by decide) (frC_len _ _) rfl ?_; intro wa hrow hba; have eB0 := B0.zw hba; have eB3 := B3.zw hba; have eB4 := B4.zw hba; have eB5 := B5.zw hba; have ehb := hb.trans (hba.mono hb.size)) | (at_builtin; refine wpList_append_sl _ rfl _ _ 61 rfl base 55 (.agg (frC (fun _ => 0) (fun _ => 0)).toArray) 128 128 Try.underlying61 Try.infoFrm (by simp [Value.cells, frC_len]) (by decide) lst _ rfl eB4.1.1 W7.heap.size (frC A B) rfl (frC_len _ _) hrow.range (frC_ones _ _) (by rw [frRows_len]; unfold maxLen; omega) (by rw [frRows_len]; omega) ?_; intro vp wp hSp hg1; have fB0 := eB0.grownE eB4.1.1 hg1 (by decide); have fB3 := eB3.grownE eB4.1.1 hg1 (by decide); have fhb := ehb.grown hg1 ehb.size (fun k e => Nat.le_trans ybw (eB4.1.1.own k e))))
             go_roundw
             case rel => exact ⟨k + 1, vp, rfl, by go_num, by omega, fhb, fB0, fB3, (by rw [rowF_yes (by rw [← HB.out]; exact HCC.out.symm), ← HB.out, ← List.append_assoc, ← List.append_assoc, frRows_snoc, List.append_assoc]; exact hSp)⟩
             case measure => simp [intOf] <;> omega
            | false =>
             go_upto_region 12 with (first | (refine zla (.tmp 3) B0 Try.underlying23 Try.size23 ?_) | (refine zlr rfl 55 (.tmp 10) rfl _ rfl 55 (frC A B).toArray (B5) _ Try.underlying55 rfl 128 Try.size55 (by simp [frC_len]) ?_) | (go_at_call 125; refine (HF2.out _).mono ?_; rintro e W7 ⟨rfl, hW7⟩; replace B0 := B0.zw hW7; replace B3 := B3.zw hW7; replace B4 := B4.zw hW7; replace B5 := B5.zw hW7; replace hb := (hb).trans (hW7.mono (hb).size)))
             go_wp2_with fail
             go_roundw
             case rel => exact ⟨k + 1, lst, rfl, by go_num, by omega, hb, B0, B3, (by rw [rowF_no (by rw [← HB.out]; exact HCC.out.symm)]; exact B4.1.1)⟩
             case measure => simp [intOf] <;> omega
        · have hki : ¬ (k : Int) < (Q : Int) := by omega
          obtain rfl : k = Q := by omega
          have HCk := HC
          go_wp2_with (first | (go_at_call 99; refine (HC.out _).mono ?_; rintro e wS ⟨rfl, rfl⟩))
          go_roundw
          case rel => exact ⟨j + 1, lst, rfl, by go_num, by omega, hb, B0, (by rw [degF_s, ← HAQ.out, ← HQ.out]; exact hS)⟩
          case measure => simp [intOf] <;> omega
     · have hji : ¬ (j : Int) < (Q : Int) := by omega
       obtain rfl : j = Q := by omega
       go_wp2_with (first | (go_at_call 99; refine (HC.out _).mono ?_; rintro e wS ⟨rfl, rfl⟩))
       go_roundw
       case rel => exact ⟨n + 1, lst, rfl, by go_num, by omega, hb, B0, (by rw [allF_s, ← HQ.out]; exact hS)⟩
       case measure => simp [intOf] <;> omega
  · have hni : ¬ (n : Int) ≤ (g : Int) := by omega
    obtain rfl : n = g + 1 := by omega
    have B1 := hS.toU
    clear hS
    go_wp2_with (first | (refine zla (.tmp 3) B0 Try.underlying23 Try.size23 ?_) | (go_at_call 165; refine (HGN.out _).mono ?_; rintro e W2 ⟨rfl, hW2⟩; replace B0 := B0.zw hW2; replace B1 := B1.zw hW2; replace hb := (hb).trans (hW2.mono (hb).size)))
    go_ret
    exact ⟨_, rfl, B1.1.1.base ybw, hb⟩
end Go.Proofs.Ytoncepgcfifgbaa
end
