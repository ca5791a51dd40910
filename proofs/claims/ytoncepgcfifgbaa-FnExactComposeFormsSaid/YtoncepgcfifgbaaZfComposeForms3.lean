/-
  What the rows of this claim rest on: arrays of bytes, walks of the functions, plain mathematics.
-/
import Derived.Test.YtoncepgcfifgbaaZfComposeForms2
import Derived.WalkKit
import Derived.WalkSpells
import Derived.WalkLawsBesides
import Derived.Lib.Hide
import Derived.Laws.Rows
import Derived.Laws.CopyOwn
import Derived.Deep.QuietTactic
import Derived.Deep.WholeRow
import Derived.Deep.Draws
import Derived.Deep.MidRow
import Derived.Deep.CutRange
import Derived.Deep.DeepCutAuto
import Derived.Deep.RegionHeld3
import Derived.BigQuiet
import Derived.BigRegion
section
namespace Go.Proofs.Ytoncepgcfifgbaa
open Go Go.RowKit
set_option linter.unusedVariables false
set_option linter.unusedSimpArgs false
attribute [local irreducible] deg invN quoP resP prd bzD bzU bzW sqP ngP mkP okA monB dvN rdR cpF
theorem rangeAt_head64 {w : World} {b o : Nat} {A B : Nat → Nat} (h : w.rangeAt b o (frC A B)) : w.rangeAt b o (bl 64 A) := by
 intro j v hv
 have hj : j < 64 := by
  have := (List.getElem?_eq_some_iff.1 hv).1
  rwa [zl] at this
 exact h j v (by unfold frC; rw [List.getElem?_append_left (by rw [zl]; exact hj)]; exact hv)
set_option maxRecDepth 100000 in
set_option maxHeartbeats 3200000 in
theorem l07Code_red (p : Int) (D : Nat → Nat) (hD : byte D) (Fs : List ((Nat → Nat) × (Nat → Nat))) (hF : ∀ F, F ∈ Fs → byte F.1 ∧ byte F.2) (hlen : Fs.length ≤ 8) (bS : Nat) (w : World) (B0 : Row w bS 55 (fmL Fs).toArray) :
 Calls Try.prog 127 #[.int .i64 p, .agg (zb 64 D), .bool true, .slice (some ⟨bS, 0, none⟩) Fs.length Fs.length] w fun e w' => e = .returned (.int .i64 (ckR p D Fs)) ∧ Below w.heap.size w w' := by
 have HDC := Lib.hid (fun W => l07Is_any p D hD W)
 have HNO := Lib.hid (fun (j : Nat) F (hj : Fs[j]? = some F) h => ckF_no (p := p) (D := D) hj h)
 obtain ⟨NL, hNL⟩ : ∃ NL, NL = Fs.length := ⟨_, rfl⟩
 have HNL := Lib.hid hNL
 rw [← hNL] at hlen ⊢
 clear hNL
 have zx_0 := B0.lt
 go_enter Try.func127, Try.ntmps127
 go_upto_region 1 with (fail)
 obtain ⟨W1, hwo⟩ : ∃ v : World, v = (w.alloc (.cells (zb 64 (D)) 23)) := ⟨_, rfl⟩
 have B1 : Blk W1 (w.heap.size) 64 23 (D) := by subst hwo; have := (Blk.new w 64 23 (D)); simpa using this
 replace B0 : Row W1 (bS) 55 (fmL Fs).toArray := by subst hwo; exact (B0.alloc (.cells (zb 64 (D)) 23))
 have hb : Below w.heap.size w W1 := by subst hwo; exact ((Below.refl _ _).alloc (Nat.le_refl _) _)
 rw [← hwo]
 clear hwo
 cases hf : dcB p D with
 | false =>
  have HV := Lib.hid (ckR_1 (ckF_d (p := p) (D := D) (Fs := Fs) hf))
  go_upto_region 2 with (first | (refine zla (.tmp 5) B1 Try.underlying23 Try.size23 ?_) | (go_at_call 124; refine (HDC.out _).mono ?_; rintro e W2 ⟨rfl, hW2⟩; replace B0 := B0.zw hW2; replace B1 := B1.zw hW2; replace hb := (hb).trans (hW2.mono (hb).size); rw [hf]))
  go_wp2_with fail
  go_ret
  exact ⟨by rw [HV.out]; rfl, hb⟩
 | true =>
  have HYES := Lib.hid (fun h => ckF_yes (p := p) (D := D) (Fs := Fs) hf h)
  obtain ⟨n, g, rfl, hpr, lD, hg2, hdg⟩ := dcB_out hf
  have HFM := Lib.hid (fun F (h : F ∈ Fs) W => l07Form_any n D F.1 F.2 W hpr lD (hF F h).1 (hF F h).2)
  have hdv : deg D / 2 = (g : Int) := by omega
  have HGN := Lib.hid (fun W => l07Genus_any g D W hdg)
  have HR5 := Lib.hid (fun h (j : Nat) F (hj : Fs[j]? = some F) (h2 : ¬ deg F.1 ≤ deg D / 2) => ckR_5 (p := (n : Int)) (D := D) h hj h2)
  have HR0 := Lib.hid (fun h h2 => ckR_0 (p := (n : Int)) (D := D) (Fs := Fs) h h2)
  rw [hdv] at HR5 HR0
  clear hF lD hg2 hdg hdv
  go_upto_region 3 with (first | (refine zla (.tmp 5) B1 Try.underlying23 Try.size23 ?_) | (go_at_call 124; refine (HDC.out _).mono ?_; rintro e W2 ⟨rfl, hW2⟩; replace B0 := B0.zw hW2; replace B1 := B1.zw hW2; replace hb := (hb).trans (hW2.mono (hb).size); rw [hf]))
  clear hf HDC
  go_wp2_with fail
  go_loopw [9] (fun c wr => ∃ j : Nat, c = .int .i64 (j : Int) ∧ j ≤ NL ∧ Hid (∀ (i : Nat) (F : ((Nat → Nat) × (Nat → Nat))), i < j → Fs[i]? = some F → fmB (n : Int) D F.1 F.2 = true) ∧ Below w.heap.size w wr ∧ Row wr (bS) 55 (fmL Fs).toArray ∧ Blk wr (w.heap.size) 64 23 D) (fun c _ => NL - (intOf c).toNat)
  case atStart => exact ⟨0, rfl, Nat.zero_le _, Lib.hid (fun i F hi => absurd hi (Nat.not_lt_zero i)), hb, B0, B1⟩
  case round =>
   clear hb B0 B1
   obtain ⟨j, rfl, hjn, hall, hb, B0, B1⟩ := hrel
   by_cases hj : j < NL
   · have hjI : (j : Int) < (NL : Int) := by omega
     have hj' : j < Fs.length := by rw [← HNL.out]; exact hj
     obtain ⟨F, hF⟩ : ∃ F, Fs[j]? = some F := ⟨_, List.getElem?_eq_getElem hj'⟩
     have HFJ := Lib.hid hF
     have HSF := Lib.hid (HFM.out F (List.mem_of_getElem? hF))
     clear hF hj'
     cases hr : fmB (n : Int) D F.1 F.2 with
     | false =>
      have HV := Lib.hid (ckR_1 (HNO.out j F HFJ.out hr))
      rw [hr] at HSF
      clear hr
      go_upto_region 6 with (fail)
      refine zq Try.mixed (by kernel_rfl) (by kernel_rfl) (fun v => by (simp only [frL, Act.put, pA, pB, pC, Nat.reduceAdd, Nat.zero_add]; exact rfl))
       (fun L v W3 => Below wr.heap.size wr W3 ∧ VF L v [some (.int .i64 (n : Int)), some (.agg (zb 64 (D))), some (.slice (some ⟨bS, 0, none⟩) NL NL), some (.int .i64 (j : Int)), some (.pointer (some ⟨bS, j * 128, none⟩)), some (.agg (frC F.1 F.2).toArray), some (.bool false), some (.bool true)]) ?_ ?_ ?_
      · intro v hv0
        exact ⟨(Below.refl _ wr).drew, VF.start⟩
      · refine (.cons rfl ?_ (.cons rfl ?_ (.cons rfl ?_ (.cons rfl ?_ (.cons rfl ?_ (.cons rfl ?_ (.cons rfl ?_ (.cons rfl ?_ (.nil _)))))))))
        all_goals intro L v W3 hd hn ⟨hY, V⟩ K hK
        · go_wp2_with fail
          exact hK _ (.int .i64 (n : Int)) _ (by simp only [Act.put, pA, pB, pC ]) ⟨hY, V.step 0 rfl⟩
        · refine zlc (B1.zw hY) Try.underlying23 Try.size23 ?_
          exact hK _ _ _ rfl ⟨hY, V.step 1 rfl⟩
        · go_wp2_with fail
          exact hK _ (.slice (some ⟨bS, 0, none⟩) NL NL) _ (by simp only [Act.put, pA, pB, pC ]) ⟨hY, V.step 2 rfl⟩
        · go_wp2_with fail
          exact hK _ (.int .i64 (j : Int)) _ (by simp only [Act.put, pA, pB, pC ]) ⟨hY, V.step 3 rfl⟩
        · have e2 := V.at (zdq hd 2 rfl) rfl
          have e3 := V.at (zdq hd 3 rfl) rfl
          go_wp2_with fail
          exact hK _ (.pointer (some ⟨bS, j * 128, none⟩)) _ (by simp only [Act.put, pA, pB, pC, e2, e3]) ⟨hY, V.step 4 rfl⟩
        · have e4 := V.at (zdq hd 4 rfl) rfl
          refine wp_load_mid 55 _ rfl _ (j * 128) e4 _ _ ((B0.zw hY).frAt HFJ.out) Try.underlying55 rfl (by rw [frC_len]; exact Try.size55) ?_
          exact hK _ _ _ rfl ⟨hY, V.step 5 rfl⟩
        · have e0 := V.at (zdq hd 0 rfl) rfl
          have e1 := V.at (zdq hd 1 rfl) rfl
          have e5 := V.at (zdq hd 5 rfl) rfl
          go_wp2_with (go_at_call 125; refine (HSF.out _).mono ?_; rintro e wy ⟨rfl, hy⟩)
          exact hK _ (.bool false) _ (by simp only [Act.put, pA, pB, pC, e0, e1, e5]) ⟨hY.trans (hy.mono hY.size), V.step 6 rfl⟩
        · have e6 := V.at (zdq hd 6 rfl) rfl
          go_wp2_with fail
          exact hK _ (.bool true) _ (by simp only [Act.put, pA, pB, pC, e6]) ⟨hY, V.step 7 rfl⟩
      · intro L v W3 hL ⟨hY, V⟩
        have e0 := V.at (hL 0 (by decide)) rfl
        have e1 := V.at (hL 1 (by decide)) rfl
        have e2 := V.at (hL 2 (by decide)) rfl
        have e3 := V.at (hL 3 (by decide)) rfl
        have e4 := V.at (hL 4 (by decide)) rfl
        have e5 := V.at (hL 5 (by decide)) rfl
        have e6 := V.at (hL 6 (by decide)) rfl
        have e7 := V.at (hL 7 (by decide)) rfl
        clear hL V
        replace B0 := B0.zw hY
        replace B1 := B1.zw hY
        replace hb := hb.trans (hY.mono hb.size)
        clear hY
        simp only [Exit.then, e0, e1, e2, e3, e4, e5, e6, e7]
        clear e0 e1 e2 e3 e4 e5 e6 e7
        go_wp2_with fail
        go_ret
        exact ⟨by rw [HV.out]; rfl, hb⟩
     | true =>
      have HA := Lib.hid (show ∀ (i : Nat) (G : ((Nat → Nat) × (Nat → Nat))), i < j + 1 → Fs[i]? = some G → fmB (n : Int) D G.1 G.2 = true from fun i G hi hG => by
       by_cases e : i = j
       · subst e; rw [HFJ.out] at hG; injection hG with hG; subst hG; exact hr
       · exact hall.out i G (by omega) hG)
      rw [hr] at HSF
      clear hr
      go_upto_region 6 with (fail)
      refine zq Try.mixed (by kernel_rfl) (by kernel_rfl) (fun v => by (simp only [frL, Act.put, pA, pB, pC, Nat.reduceAdd, Nat.zero_add]; exact rfl))
       (fun L v W3 => Below wr.heap.size wr W3 ∧ VF L v [some (.int .i64 (n : Int)), some (.agg (zb 64 (D))), some (.slice (some ⟨bS, 0, none⟩) NL NL), some (.int .i64 (j : Int)), some (.pointer (some ⟨bS, j * 128, none⟩)), some (.agg (frC F.1 F.2).toArray), some (.bool true), some (.bool false)]) ?_ ?_ ?_
      · intro v hv0
        exact ⟨(Below.refl _ wr).drew, VF.start⟩
      · refine (.cons rfl ?_ (.cons rfl ?_ (.cons rfl ?_ (.cons rfl ?_ (.cons rfl ?_ (.cons rfl ?_ (.cons rfl ?_ (.cons rfl ?_ (.nil _)))))))))
        all_goals intro L v W3 hd hn ⟨hY, V⟩ K hK
        · go_wp2_with fail
          exact hK _ (.int .i64 (n : Int)) _ (by simp only [Act.put, pA, pB, pC ]) ⟨hY, V.step 0 rfl⟩
        · refine zlc (B1.zw hY) Try.underlying23 Try.size23 ?_
          exact hK _ _ _ rfl ⟨hY, V.step 1 rfl⟩
        · go_wp2_with fail
          exact hK _ (.slice (some ⟨bS, 0, none⟩) NL NL) _ (by simp only [Act.put, pA, pB, pC ]) ⟨hY, V.step 2 rfl⟩
        · go_wp2_with fail
          exact hK _ (.int .i64 (j : Int)) _ (by simp only [Act.put, pA, pB, pC ]) ⟨hY, V.step 3 rfl⟩
        · have e2 := V.at (zdq hd 2 rfl) rfl
          have e3 := V.at (zdq hd 3 rfl) rfl
          go_wp2_with fail
          exact hK _ (.pointer (some ⟨bS, j * 128, none⟩)) _ (by simp only [Act.put, pA, pB, pC, e2, e3]) ⟨hY, V.step 4 rfl⟩
        · have e4 := V.at (zdq hd 4 rfl) rfl
          refine wp_load_mid 55 _ rfl _ (j * 128) e4 _ _ ((B0.zw hY).frAt HFJ.out) Try.underlying55 rfl (by rw [frC_len]; exact Try.size55) ?_
          exact hK _ _ _ rfl ⟨hY, V.step 5 rfl⟩
        · have e0 := V.at (zdq hd 0 rfl) rfl
          have e1 := V.at (zdq hd 1 rfl) rfl
          have e5 := V.at (zdq hd 5 rfl) rfl
          go_wp2_with (go_at_call 125; refine (HSF.out _).mono ?_; rintro e wy ⟨rfl, hy⟩)
          exact hK _ (.bool true) _ (by simp only [Act.put, pA, pB, pC, e0, e1, e5]) ⟨hY.trans (hy.mono hY.size), V.step 6 rfl⟩
        · have e6 := V.at (zdq hd 6 rfl) rfl
          go_wp2_with fail
          exact hK _ (.bool false) _ (by simp only [Act.put, pA, pB, pC, e6]) ⟨hY, V.step 7 rfl⟩
      · intro L v W3 hL ⟨hY, V⟩
        have e0 := V.at (hL 0 (by decide)) rfl
        have e1 := V.at (hL 1 (by decide)) rfl
        have e2 := V.at (hL 2 (by decide)) rfl
        have e3 := V.at (hL 3 (by decide)) rfl
        have e4 := V.at (hL 4 (by decide)) rfl
        have e5 := V.at (hL 5 (by decide)) rfl
        have e6 := V.at (hL 6 (by decide)) rfl
        have e7 := V.at (hL 7 (by decide)) rfl
        clear hL V
        replace B0 := B0.zw hY
        replace B1 := B1.zw hY
        replace hb := hb.trans (hY.mono hb.size)
        clear hY
        simp only [Exit.then, e0, e1, e2, e3, e4, e5, e6, e7]
        clear e0 e1 e2 e3 e4 e5 e6 e7
        go_wp2_with fail
        go_roundw
        case rel => exact ⟨j + 1, by go_num, by omega, HA, hb, B0, B1⟩
        case measure => simp [intOf] <;> omega
   · have hjI : ¬ (j : Int) < (NL : Int) := by omega
     have HV0 := Lib.hid (HYES.out (fun i F hF => hall.out i F (by have := (List.getElem?_eq_some_iff.1 hF).1; have := HNL.out; omega) hF))
     clear hall
     go_wp2_with fail
     clear hjI hj hjn
     go_loopw [10] (fun c wr => ∃ j : Nat, c = .int .i64 (j : Int) ∧ j ≤ NL ∧ Hid (∀ (i : Nat) (F : ((Nat → Nat) × (Nat → Nat))), i < j → Fs[i]? = some F → deg F.1 ≤ (g : Int)) ∧ Below w.heap.size w wr ∧ Row wr (bS) 55 (fmL Fs).toArray ∧ Blk wr (w.heap.size) 64 23 D) (fun c _ => NL - (intOf c).toNat)
     case atStart => exact ⟨0, rfl, Nat.zero_le _, Lib.hid (fun i F hi => absurd hi (Nat.not_lt_zero i)), hb, B0, B1⟩
     case round =>
      clear hb B0 B1
      obtain ⟨j, rfl, hjn, hall, hb, B0, B1⟩ := hrel
      by_cases hj : j < NL
      · have hjI : (j : Int) < (NL : Int) := by omega
        have hj' : j < Fs.length := by rw [← HNL.out]; exact hj
        obtain ⟨F, hF⟩ : ∃ F, Fs[j]? = some F := ⟨_, List.getElem?_eq_getElem hj'⟩
        have HFJ := Lib.hid hF
        clear hF hj'
        by_cases hd : deg F.1 ≤ (g : Int)
        · have HA := Lib.hid (show ∀ (i : Nat) (G : ((Nat → Nat) × (Nat → Nat))), i < j + 1 → Fs[i]? = some G → deg G.1 ≤ (g : Int) from fun i G hi hG => by
          by_cases e : i = j
          · subst e; rw [HFJ.out] at hG; injection hG with hG; subst hG; exact hd
          · exact hall.out i G (by omega) hG)
          go_upto_region 11 with (fail)
          refine zq Try.mixed (by kernel_rfl) (by kernel_rfl) (fun v => by (simp only [frL, Act.put, pA, pB, pC, Nat.reduceAdd, Nat.zero_add]; exact rfl))
           (fun L v W3 => Below wr.heap.size wr W3 ∧ VF L v [some (.slice (some ⟨bS, 0, none⟩) NL NL), some (.int .i64 (j : Int)), some (.pointer (some ⟨bS, j * 128, none⟩)), some (.pointer (some ⟨bS, j * 128, none⟩)), some (.agg (zb 64 (F.1))), some (.int .i64 (deg F.1)), some (.agg (zb 64 (D))), some (.int .i64 (g : Int)), some (.bool false)]) ?_ ?_ ?_
          · intro v hv0
            exact ⟨(Below.refl _ wr).drew, VF.start⟩
          · refine (.cons rfl ?_ (.cons rfl ?_ (.cons rfl ?_ (.cons rfl ?_ (.cons rfl ?_ (.cons rfl ?_ (.cons rfl ?_ (.cons rfl ?_ (.cons rfl ?_ (.nil _))))))))))
            all_goals intro L v W3 hd hn ⟨hY, V⟩ K hK
            · go_wp2_with fail
              exact hK _ (.slice (some ⟨bS, 0, none⟩) NL NL) _ (by simp only [Act.put, pA, pB, pC ]) ⟨hY, V.step 0 rfl⟩
            · go_wp2_with fail
              exact hK _ (.int .i64 (j : Int)) _ (by simp only [Act.put, pA, pB, pC ]) ⟨hY, V.step 1 rfl⟩
            · have e0 := V.at (zdq hd 0 rfl) rfl
              have e1 := V.at (zdq hd 1 rfl) rfl
              go_wp2_with fail
              exact hK _ (.pointer (some ⟨bS, j * 128, none⟩)) _ (by simp only [Act.put, pA, pB, pC, e0, e1]) ⟨hY, V.step 2 rfl⟩
            · have e2 := V.at (zdq hd 2 rfl) rfl
              go_wp2_with fail
              exact hK _ (.pointer (some ⟨bS, j * 128, none⟩)) _ (by simp only [Act.put, pA, pB, pC, e2]) ⟨hY, V.step 3 rfl⟩
            · have e3 := V.at (zdq hd 3 rfl) rfl
              refine wp_load_mid 23 _ rfl _ (j * 128) e3 (bl 64 F.1) _ (rangeAt_head64 (((B0.zw hY)).frAt HFJ.out)) Try.underlying23 rfl (by rw [zl]; exact Try.size23) ?_
              exact hK _ _ _ rfl ⟨hY, V.step 4 rfl⟩
            · have e4 := V.at (zdq hd 4 rfl) rfl
              go_wp2_with (go_at_call 88; refine (l01Deg_any F.1 _).mono ?_; rintro e wy ⟨rfl, hy⟩)
              exact hK _ (.int .i64 (deg F.1)) _ (by simp only [Act.put, pA, pB, pC, e4]) ⟨hY.trans (hy.mono hY.size), V.step 5 rfl⟩
            · refine zlc (B1.zw hY) Try.underlying23 Try.size23 ?_
              exact hK _ _ _ rfl ⟨hY, V.step 6 rfl⟩
            · have e6 := V.at (zdq hd 6 rfl) rfl
              go_wp2_with (go_at_call 165; refine (HGN.out _).mono ?_; rintro e wy ⟨rfl, hy⟩)
              exact hK _ (.int .i64 (g : Int)) _ (by simp only [Act.put, pA, pB, pC, e6]) ⟨hY.trans (hy.mono hY.size), V.step 7 rfl⟩
            · have e5 := V.at (zdq hd 5 rfl) rfl
              have e7 := V.at (zdq hd 7 rfl) rfl
              go_wp2_with fail
              try rw [show decide ((g : Int) < deg F.1) = false by simp; omega]
              try rw [show decide (deg F.1 > (g : Int)) = false by simp; omega]
              exact hK _ (.bool false) _ (by simp only [Act.put, pA, pB, pC, e5, e7]) ⟨hY, V.step 8 rfl⟩
          · intro L v W3 hL ⟨hY, V⟩
            have e0 := V.at (hL 0 (by decide)) rfl
            have e1 := V.at (hL 1 (by decide)) rfl
            have e2 := V.at (hL 2 (by decide)) rfl
            have e3 := V.at (hL 3 (by decide)) rfl
            have e4 := V.at (hL 4 (by decide)) rfl
            have e5 := V.at (hL 5 (by decide)) rfl
            have e6 := V.at (hL 6 (by decide)) rfl
            have e7 := V.at (hL 7 (by decide)) rfl
            have e8 := V.at (hL 8 (by decide)) rfl
            clear hL V
            replace B0 := B0.zw hY
            replace B1 := B1.zw hY
            replace hb := hb.trans (hY.mono hb.size)
            clear hY
            simp only [Exit.then, e0, e1, e2, e3, e4, e5, e6, e7, e8]
            clear e0 e1 e2 e3 e4 e5 e6 e7 e8
            go_wp2_with fail
            go_roundw
            case rel => exact ⟨j + 1, by go_num, by omega, HA, hb, B0, B1⟩
            case measure => simp [intOf] <;> omega
        · have HV := Lib.hid (HR5.out HV0.out j F HFJ.out (by omega))
          go_upto_region 11 with (fail)
          refine zq Try.mixed (by kernel_rfl) (by kernel_rfl) (fun v => by (simp only [frL, Act.put, pA, pB, pC, Nat.reduceAdd, Nat.zero_add]; exact rfl))
           (fun L v W3 => Below wr.heap.size wr W3 ∧ VF L v [some (.slice (some ⟨bS, 0, none⟩) NL NL), some (.int .i64 (j : Int)), some (.pointer (some ⟨bS, j * 128, none⟩)), some (.pointer (some ⟨bS, j * 128, none⟩)), some (.agg (zb 64 (F.1))), some (.int .i64 (deg F.1)), some (.agg (zb 64 (D))), some (.int .i64 (g : Int)), some (.bool true)]) ?_ ?_ ?_
          · intro v hv0
            exact ⟨(Below.refl _ wr).drew, VF.start⟩
          · refine (.cons rfl ?_ (.cons rfl ?_ (.cons rfl ?_ (.cons rfl ?_ (.cons rfl ?_ (.cons rfl ?_ (.cons rfl ?_ (.cons rfl ?_ (.cons rfl ?_ (.nil _))))))))))
            all_goals intro L v W3 hd hn ⟨hY, V⟩ K hK
            · go_wp2_with fail
              exact hK _ (.slice (some ⟨bS, 0, none⟩) NL NL) _ (by simp only [Act.put, pA, pB, pC ]) ⟨hY, V.step 0 rfl⟩
            · go_wp2_with fail
              exact hK _ (.int .i64 (j : Int)) _ (by simp only [Act.put, pA, pB, pC ]) ⟨hY, V.step 1 rfl⟩
            · have e0 := V.at (zdq hd 0 rfl) rfl
              have e1 := V.at (zdq hd 1 rfl) rfl
              go_wp2_with fail
              exact hK _ (.pointer (some ⟨bS, j * 128, none⟩)) _ (by simp only [Act.put, pA, pB, pC, e0, e1]) ⟨hY, V.step 2 rfl⟩
            · have e2 := V.at (zdq hd 2 rfl) rfl
              go_wp2_with fail
              exact hK _ (.pointer (some ⟨bS, j * 128, none⟩)) _ (by simp only [Act.put, pA, pB, pC, e2]) ⟨hY, V.step 3 rfl⟩
            · have e3 := V.at (zdq hd 3 rfl) rfl
              refine wp_load_mid 23 _ rfl _ (j * 128) e3 (bl 64 F.1) _ (rangeAt_head64 (((B0.zw hY)).frAt HFJ.out)) Try.underlying23 rfl (by rw [zl]; exact Try.size23) ?_
              exact hK _ _ _ rfl ⟨hY, V.step 4 rfl⟩
            · have e4 := V.at (zdq hd 4 rfl) rfl
              go_wp2_with (go_at_call 88; refine (l01Deg_any F.1 _).mono ?_; rintro e wy ⟨rfl, hy⟩)
              exact hK _ (.int .i64 (deg F.1)) _ (by simp only [Act.put, pA, pB, pC, e4]) ⟨hY.trans (hy.mono hY.size), V.step 5 rfl⟩
            · refine zlc (B1.zw hY) Try.underlying23 Try.size23 ?_
              exact hK _ _ _ rfl ⟨hY, V.step 6 rfl⟩
            · have e6 := V.at (zdq hd 6 rfl) rfl
              go_wp2_with (go_at_call 165; refine (HGN.out _).mono ?_; rintro e wy ⟨rfl, hy⟩)
              exact hK _ (.int .i64 (g : Int)) _ (by simp only [Act.put, pA, pB, pC, e6]) ⟨hY.trans (hy.mono hY.size), V.step 7 rfl⟩
            · have e5 := V.at (zdq hd 5 rfl) rfl
              have e7 := V.at (zdq hd 7 rfl) rfl
              go_wp2_with fail
              try rw [show decide ((g : Int) < deg F.1) = true by simp; omega]
              try rw [show decide (deg F.1 > (g : Int)) = true by simp; omega]
              exact hK _ (.bool true) _ (by simp only [Act.put, pA, pB, pC, e5, e7]) ⟨hY, V.step 8 rfl⟩
          · intro L v W3 hL ⟨hY, V⟩
            have e0 := V.at (hL 0 (by decide)) rfl
            have e1 := V.at (hL 1 (by decide)) rfl
            have e2 := V.at (hL 2 (by decide)) rfl
            have e3 := V.at (hL 3 (by decide)) rfl
            have e4 := V.at (hL 4 (by decide)) rfl
            have e5 := V.at (hL 5 (by decide)) rfl
            have e6 := V.at (hL 6 (by decide)) rfl
            have e7 := V.at (hL 7 (by decide)) rfl
            have e8 := V.at (hL 8 (by decide)) rfl
            clear hL V
            replace B0 := B0.zw hY
            replace B1 := B1.zw hY
            replace hb := hb.trans (hY.mono hb.size)
            clear hY
            simp only [Exit.then, e0, e1, e2, e3, e4, e5, e6, e7, e8]
            clear e0 e1 e2 e3 e4 e5 e6 e7 e8
            go_wp2_with fail
            go_ret
            exact ⟨by rw [HV.out]; rfl, hb⟩
      · have hjI : ¬ (j : Int) < (NL : Int) := by omega
        have HV := Lib.hid (HR0.out HV0.out (fun i F hF => hall.out i F (by have := (List.getElem?_eq_some_iff.1 hF).1; have := HNL.out; omega) hF))
        go_wp2_with fail
        go_ret
        exact ⟨by rw [HV.out]; rfl, hb⟩
end Go.Proofs.Ytoncepgcfifgbaa
end
section
namespace Go.Proofs.Ytoncepgcfifgbaa
open Go Go.RowKit
set_option linter.unusedVariables false
set_option linter.unusedSimpArgs false
attribute [local irreducible] deg invN quoP resP prd bzD bzU bzW sqP ngP mkP okA monB dvN rdR cpF
noncomputable def coV (p : Int) (D X1 Y1 X2 Y2 : Nat → Nat) : ((Nat → Nat) × (Nat → Nat)) × Int := if ckR p D [(X1, Y1), (X2, Y2)] = 0 then (cpF p.toNat D (deg D / 2).toNat X1 Y1 X2 Y2, 0) else ((fun _ => 0, fun _ => 0), ckR p D [(X1, Y1), (X2, Y2)])
theorem coV_0 {n g : Nat} {D X1 Y1 X2 Y2 : Nat → Nat} (h : ckR (n : Int) D [(X1, Y1), (X2, Y2)] = 0) (hD : deg D = ((2 * g + 1 : Nat) : Int)) : coV (n : Int) D X1 Y1 X2 Y2 = (cpF n D g X1 Y1 X2 Y2, 0) := by
 unfold coV; rw [if_pos h, Int.toNat_natCast, show (deg D / 2).toNat = g by omega]
theorem coV_c {p c : Int} {D X1 Y1 X2 Y2 : Nat → Nat} (h : ckR p D [(X1, Y1), (X2, Y2)] = c) (hc : ¬ c = 0) : coV p D X1 Y1 X2 Y2 = ((fun _ => 0, fun _ => 0), c) := by
 unfold coV; rw [if_neg (by rw [h]; exact hc), h]
theorem ckR_three (p : Int) (D : Nat → Nat) (Fs : List ((Nat → Nat) × (Nat → Nat))) : ckR p D Fs = 0 ∨ ckR p D Fs = 1 ∨ ckR p D Fs = 5 := by
 rcases ckF_two p D Fs with h | h
 · by_cases h2 : ∀ F, F ∈ Fs → deg F.1 ≤ deg D / 2
   · exact .inl (ckR_0 h (fun i F hF => h2 F (List.mem_of_getElem? hF)))
   · refine .inr (.inr ?_)
     obtain ⟨F, hF⟩ := Classical.not_forall.1 h2
     obtain ⟨hF, h3⟩ := Classical.not_imp.1 hF
     obtain ⟨i, hi, e⟩ := List.getElem_of_mem hF
     exact ckR_5 h (by rw [← e]; exact List.getElem?_eq_getElem hi) h3
 · exact .inr (.inl (ckR_1 h))
set_option maxRecDepth 100000 in
set_option maxHeartbeats 3200000 in
theorem impl_ComposeForms_any (p : Int) (D X1 Y1 X2 Y2 : Nat → Nat) (hD : byte D) (hx1 : byte X1) (hy1 : byte Y1) (hx2 : byte X2) (hy2 : byte Y2) (w : World) :
 Calls Try.prog 73 #[.int .i64 p, .agg (zb 64 D), .agg (frC X1 Y1).toArray, .agg (frC X2 Y2).toArray] w fun e w' => e = .returned (.tuple #[.agg (frC (coV p D X1 Y1 X2 Y2).1.1 (coV p D X1 Y1 X2 Y2).1.2).toArray, .int .i64 (coV p D X1 Y1 X2 Y2).2]) ∧ Below w.heap.size w w' := by
 go_enter Try.func73, Try.ntmps73
 go_upto_region 1 with (fail)
 rw [← frC_zero]
 obtain ⟨W1, hwo⟩ : ∃ v : World, v = ((((w.alloc (.cells (zb 64 (D)) 23)).alloc (.cells (frC X1 Y1).toArray 55)).alloc (.cells (frC X2 Y2).toArray 55)).alloc (.cells (frC (fun _ => 0) (fun _ => 0)).toArray 55)) := ⟨_, rfl⟩
 have B0 : Blk W1 (w.heap.size) 64 23 (D) := by subst hwo; have := ((((Blk.new w 64 23 (D)).alloc (.cells (frC X1 Y1).toArray 55)).alloc (.cells (frC X2 Y2).toArray 55)).alloc (.cells (frC (fun _ => 0) (fun _ => 0)).toArray 55)); simpa using this
 have B1 : Row W1 (w.heap.size + 1) 55 (frC X1 Y1).toArray := by subst hwo; have := (((Row.new (w.alloc (.cells (zb 64 (D)) 23)) 55 (frC X1 Y1).toArray).alloc (.cells (frC X2 Y2).toArray 55)).alloc (.cells (frC (fun _ => 0) (fun _ => 0)).toArray 55)); simpa using this
 have B2 : Row W1 (w.heap.size + 1 + 1) 55 (frC X2 Y2).toArray := by subst hwo; have := ((Row.new ((w.alloc (.cells (zb 64 (D)) 23)).alloc (.cells (frC X1 Y1).toArray 55)) 55 (frC X2 Y2).toArray).alloc (.cells (frC (fun _ => 0) (fun _ => 0)).toArray 55)); simpa using this
 have B3 : Row W1 (w.heap.size + 1 + 1 + 1) 55 (frC (fun _ => 0) (fun _ => 0)).toArray := by subst hwo; have := (Row.new (((w.alloc (.cells (zb 64 (D)) 23)).alloc (.cells (frC X1 Y1).toArray 55)).alloc (.cells (frC X2 Y2).toArray 55)) 55 (frC (fun _ => 0) (fun _ => 0)).toArray); simpa using this
 have hb : Below w.heap.size w W1 := by subst hwo; exact (((((Below.refl _ _).alloc (Nat.le_refl _) _).alloc (by simp) _).alloc (by simp; omega) _).alloc (by simp; omega) _)
 rw [← hwo]
 clear hwo
 rcases ckF_two p D [(X1, Y1), (X2, Y2)] with hc | hc
 · have hc0 := hc
   obtain ⟨n, g, rfl, hpr, lD, hg2, hdg, hall⟩ := ckF_fm hc0 (A := X1) (B := Y1) (by simp)
   have hdv : deg D / 2 = (g : Int) := by omega
   have hf1 := hall (X1, Y1) (by simp)
   have hf2 := hall (X2, Y2) (by simp)
   dsimp only at hf1 hf2
   clear hall
   have HR1 := Lib.hid (fun W => isReduced_any (n : Int) g D X1 Y1 W hdg)
   have HR2 := Lib.hid (fun W => isReduced_any (n : Int) g D X2 Y2 W hdg)
   go_upto_region 4 with (first | (refine zla (.tmp 5) B0 Try.underlying23 Try.size23 ?_) | (refine zlr rfl 55 (.tmp 6) rfl _ rfl 55 (frC X1 Y1).toArray (B1) _ Try.underlying55 rfl 128 Try.size55 (by simp [frC_len]) ?_) | (refine zlr rfl 55 (.tmp 7) rfl _ rfl 55 (frC X2 Y2).toArray (B2) _ Try.underlying55 rfl 128 Try.size55 (by simp [frC_len]) ?_) | (go_at_call 129; refine (checkForms_any (n : Int) D hD [(X1, Y1), (X2, Y2)] (by simp [hx1, hy1, hx2, hy2]) (by simp) _ _ hps).mono ?_; rintro e W2 ⟨rfl, hW2⟩; replace B0 := B0.zw hW2; replace B1 := B1.zw hW2; replace B2 := B2.zw hW2; replace B3 := B3.zw hW2; replace hb := (hb).trans (hW2.mono (hb).size); rw [hc]) | (refine wpList_build_frs rfl 61 _ [(X1, Y1), (X2, Y2)] rfl 55 Try.underlying61 Try.elem55 (by simp) (by simp) rfl ?_; intro wa hps hba; replace B0 := B0.zw hba; replace B1 := B1.zw hba; replace B2 := B2.zw hba; replace B3 := B3.zw hba; replace hb := hb.trans (hba.mono hb.size)))
   clear hc
   have lt_B0 := B0.lt
   have lt_B1 := B1.lt
   have lt_B2 := B2.lt
   have lt_B3 := B3.lt
   go_upto_region 5 with (first | rw [← z64] | rw [← cvC_zero] | (refine zla (.tmp 5) B0 Try.underlying23 Try.size23 ?_) | (refine wpList_store_rowv rfl 107 (.tmp 11) (.tmp 24) rfl _ rfl (fdC (n : Int) D).toArray rfl 107 _ ((Row.new W2 107 (fdC 0 (fun _ => 0)).toArray)) 65 Try.size107 (by simp [fdC_len]) (by simp [fdC_len]) (fdC_all _ _) ?_; try simp only [Act.put]) | (refine zbo rfl 107 _ rfl (fdC (n : Int) D).toArray (by rw [Array.toList_map]; exact built_cv _ _) ?_))
   have lt_B0 := B0.lt
   have lt_B1 := B1.lt
   have lt_B2 := B2.lt
   have lt_B3 := B3.lt
   have lhb := hb.size
   obtain ⟨W3, hwo, hzQ⟩ : ∃ v : World, v = ((W2.alloc (.cells (fdC 0 (fun _ => 0)).toArray 107)).setRow (W2.heap.size) (fdC (n : Int) D).toArray) ∧ Blk v (w.heap.size) 64 23 (D) ∧ Row v (w.heap.size + 1) 55 (frC X1 Y1).toArray ∧ Row v (w.heap.size + 1 + 1) 55 (frC X2 Y2).toArray ∧ Row v (w.heap.size + 1 + 1 + 1) 55 (frC (fun _ => 0) (fun _ => 0)).toArray ∧ Row v (W2.heap.size) 107 (fdC (n : Int) D).toArray ∧ Below w.heap.size w v := ⟨_, rfl, ((B0.alloc (.cells (fdC 0 (fun _ => 0)).toArray 107)).rowOther (by omega)), ((B1.alloc (.cells (fdC 0 (fun _ => 0)).toArray 107)).rowOther (by omega)), ((B2.alloc (.cells (fdC 0 (fun _ => 0)).toArray 107)).rowOther (by omega)), ((B3.alloc (.cells (fdC 0 (fun _ => 0)).toArray 107)).rowOther (by omega)), ((Row.new W2 107 (fdC 0 (fun _ => 0)).toArray).row (fdC (n : Int) D).toArray), (zr (hb.alloc (by have := hb.size; simp; omega) (.cells (fdC 0 (fun _ => 0)).toArray 107)) (by omega) _)⟩
   rw [← hwo]
   clear hwo B0 B1 B2 B3 hb
   obtain ⟨B0, B1, B2, B3, B4, hb⟩ := hzQ
   obtain ⟨N1, hNN⟩ : ∃ n : Nat, n = W2.heap.size := ⟨_, rfl⟩
   rw [← hNN] at lt_B0 lt_B1 lt_B2 lt_B3 lhb B4 ⊢
   clear hNN
   have zN1_0 := lt_B0
   have zN1_1 := lt_B1
   have zN1_2 := lt_B2
   have zN1_3 := lt_B3
   have zN1 := lhb
   clear lt_B0 lt_B1 lt_B2 lt_B3 lhb
   try simp only [Act.put, pA, pB, pC]
   by_cases e1 : deg X1 ≤ (g : Int)
   · rw [show decide (deg X1 ≤ (g : Int)) = true by simpa using e1] at HR1
     by_cases e2 : deg X2 ≤ (g : Int)
     · rw [show decide (deg X2 ≤ (g : Int)) = true by simpa using e2] at HR2
       have HV := Lib.hid (coV_0 (ckR_0 hc0 (fun i F hF => by
        rw [hdv]
        match i, hF with
        | 0, hF => cases hF; exact e1
        | 1, hF => cases hF; exact e2)) hdg)
       have HCP := Lib.hid (fun W => composed_any n g D X1 Y1 X2 Y2 W hpr lD hdg hg2 ⟨hf1, e1⟩ ⟨hf2, e2⟩)
       obtain ⟨Fa, hFa⟩ : ∃ Fa, Fa = (cpF n D g X1 Y1 X2 Y2).1 := ⟨_, rfl⟩
       obtain ⟨Fb, hFb⟩ : ∃ Fb, Fb = (cpF n D g X1 Y1 X2 Y2).2 := ⟨_, rfl⟩
       rw [← hFa, ← hFb] at HCP
       rw [show cpF n D g X1 Y1 X2 Y2 = (Fa, Fb) by rw [hFa, hFb]] at HV
       clear hFa hFb
       clear hc0 lD hg2 hdg hdv hf1 hf2 hpr e1 e2
       go_upto_region 7 with (first | (refine zlr rfl 107 (.tmp 11) rfl _ rfl 107 (fdC (n : Int) D).toArray (B4) _ Try.underlying107 rfl 65 Try.size107 (by simp [fdC_len]) ?_) | (refine zlr rfl 55 (.tmp 6) rfl _ rfl 55 (frC X1 Y1).toArray (B1) _ Try.underlying55 rfl 128 Try.size55 (by simp [frC_len]) ?_) | (go_at_call 134; with_reducible refine (HR1.out _).mono ?_; rintro e W4 ⟨rfl, hW4⟩; replace B0 := B0.zw hW4; replace B1 := B1.zw hW4; replace B2 := B2.zw hW4; replace B3 := B3.zw hW4; replace B4 := B4.zw hW4; replace hb := (hb).trans (hW4.mono (hb).size)) | (refine wpList_load_rowv_g rfl 107 (.tmp 11) rfl _ rfl 107 (fdC (n : Int) D).toArray (B4) _ Try.underlying107 rfl 65 Try.size107 (by simp [fdC_len]) ?_) | (refine wpList_load_rowv_g rfl 55 (.tmp 7) rfl _ rfl 55 (frC X2 Y2).toArray (B2) _ Try.underlying55 rfl 128 Try.size55 (by simp [frC_len]) ?_) | (go_at_call 134; with_reducible refine (HR2.out _).mono ?_; rintro e W5 ⟨rfl, hW5⟩; replace B0 := B0.zw hW5; replace B1 := B1.zw hW5; replace B2 := B2.zw hW5; replace B3 := B3.zw hW5; replace B4 := B4.zw hW5; replace hb := (hb).trans (hW5.mono (hb).size)))
       have lt_B0 := B0.lt
       have lt_B1 := B1.lt
       have lt_B2 := B2.lt
       have lt_B3 := B3.lt
       have lt_B4 := B4.lt
       go_wp2_with (first | rw [← z64] | (refine zlr rfl 107 (.tmp 11) rfl _ rfl 107 (fdC (n : Int) D).toArray (B4) _ Try.underlying107 rfl 65 Try.size107 (by simp [fdC_len]) ?_) | (refine zlr rfl 55 (.tmp 6) rfl _ rfl 55 (frC X1 Y1).toArray (B1) _ Try.underlying55 rfl 128 Try.size55 (by simp [frC_len]) ?_) | (refine zlr rfl 55 (.tmp 7) rfl _ rfl 55 (frC X2 Y2).toArray (B2) _ Try.underlying55 rfl 128 Try.size55 (by simp [frC_len]) ?_) | (go_at_call 135; refine (HCP.out _).mono ?_; rintro e W6 ⟨rfl, hW6⟩; replace B0 := B0.zw hW6; replace B1 := B1.zw hW6; replace B2 := B2.zw hW6; replace B3 := B3.zw hW6; replace B4 := B4.zw hW6; replace hb := (hb).trans (hW6.mono (hb).size)) | (refine wpList_store_rowv rfl 55 (.tmp 8) (.tmp 39) rfl _ rfl (frC Fa Fb).toArray rfl 55 _ (B3) 128 Try.size55 (by simp [frC_len]) (by simp [frC_len]) (frC_all _ _) ?_; try simp only [Act.put]; go_wp2_with fail))
       obtain ⟨W7, hwo, hzQ⟩ : ∃ v : World, v = (W6.setRow (w.heap.size + 1 + 1 + 1) (frC Fa Fb).toArray) ∧ Blk v (w.heap.size) 64 23 (D) ∧ Row v (w.heap.size + 1) 55 (frC X1 Y1).toArray ∧ Row v (w.heap.size + 1 + 1) 55 (frC X2 Y2).toArray ∧ Row v (w.heap.size + 1 + 1 + 1) 55 (frC Fa Fb).toArray ∧ Row v (N1) 107 (fdC (n : Int) D).toArray ∧ Below w.heap.size w v := ⟨_, rfl, (B0.rowOther (by omega)), (B1.rowOther (by omega)), (B2.rowOther (by omega)), (B3.row (frC Fa Fb).toArray), (B4.rowOther (by omega)), (zr hb (by omega) _)⟩
       rw [← hwo]
       clear hwo B0 B1 B2 B3 B4 hb
       obtain ⟨B0, B1, B2, B3, B4, hb⟩ := hzQ
       try simp only [Act.put, pA, pB, pC]
       refine bodyPost_ret (results_rowt rfl _ _ _ _ _ rfl B3 _ Try.underlying55 rfl (by rw [Try.size55]; simp [frC_len])) rfl ⟨by first | (rw [HV.out]; rfl) | rw [HV.out], hb⟩
     · rw [show decide (deg X2 ≤ (g : Int)) = false by simpa using e2] at HR2
       have HV := Lib.hid (coV_c (ckR_5 (j := 1) (F := (X2, Y2)) hc0 rfl (by rw [hdv]; exact e2)) (by omega))
       clear hc0 lD hg2 hdg hdv hf1 hf2 hpr e1 e2
       go_upto_region 6 with (first | (refine zlr rfl 107 (.tmp 11) rfl _ rfl 107 (fdC (n : Int) D).toArray (B4) _ Try.underlying107 rfl 65 Try.size107 (by simp [fdC_len]) ?_) | (refine zlr rfl 55 (.tmp 6) rfl _ rfl 55 (frC X1 Y1).toArray (B1) _ Try.underlying55 rfl 128 Try.size55 (by simp [frC_len]) ?_) | (go_at_call 134; with_reducible refine (HR1.out _).mono ?_; rintro e W4 ⟨rfl, hW4⟩; replace B0 := B0.zw hW4; replace B1 := B1.zw hW4; replace B2 := B2.zw hW4; replace B3 := B3.zw hW4; replace B4 := B4.zw hW4; replace hb := (hb).trans (hW4.mono (hb).size)) | (refine wpList_load_rowv_g rfl 107 (.tmp 11) rfl _ rfl 107 (fdC (n : Int) D).toArray (B4) _ Try.underlying107 rfl 65 Try.size107 (by simp [fdC_len]) ?_) | (refine wpList_load_rowv_g rfl 55 (.tmp 7) rfl _ rfl 55 (frC X2 Y2).toArray (B2) _ Try.underlying55 rfl 128 Try.size55 (by simp [frC_len]) ?_) | (go_at_call 134; with_reducible refine (HR2.out _).mono ?_; rintro e W5 ⟨rfl, hW5⟩; replace B0 := B0.zw hW5; replace B1 := B1.zw hW5; replace B2 := B2.zw hW5; replace B3 := B3.zw hW5; replace B4 := B4.zw hW5; replace hb := (hb).trans (hW5.mono (hb).size)))
       have lt_B0 := B0.lt
       have lt_B1 := B1.lt
       have lt_B2 := B2.lt
       have lt_B3 := B3.lt
       have lt_B4 := B4.lt
       go_wp2_with (first | rw [← z64] | rw [← frC_zero] | (refine wpList_store_rowv rfl 55 (.tmp 8) (.tmp 35) rfl _ rfl (frC (fun _ => 0) (fun _ => 0)).toArray rfl 55 _ (B3) 128 Try.size55 (by simp [frC_len]) (by simp [frC_len]) (frC_all _ _) ?_; try simp only [Act.put]; go_wp2_with fail))
       obtain ⟨W6, hwo, hzQ⟩ : ∃ v : World, v = (W5.setRow (w.heap.size + 1 + 1 + 1) (frC (fun _ => 0) (fun _ => 0)).toArray) ∧ Blk v (w.heap.size) 64 23 (D) ∧ Row v (w.heap.size + 1) 55 (frC X1 Y1).toArray ∧ Row v (w.heap.size + 1 + 1) 55 (frC X2 Y2).toArray ∧ Row v (w.heap.size + 1 + 1 + 1) 55 (frC (fun _ => 0) (fun _ => 0)).toArray ∧ Row v (N1) 107 (fdC (n : Int) D).toArray ∧ Below w.heap.size w v := ⟨_, rfl, (B0.rowOther (by omega)), (B1.rowOther (by omega)), (B2.rowOther (by omega)), (B3.row (frC (fun _ => 0) (fun _ => 0)).toArray), (B4.rowOther (by omega)), (zr hb (by omega) _)⟩
       rw [← hwo]
       clear hwo B0 B1 B2 B3 B4 hb
       obtain ⟨B0, B1, B2, B3, B4, hb⟩ := hzQ
       try simp only [Act.put, pA, pB, pC]
       refine bodyPost_ret (results_rowt rfl _ _ _ _ _ rfl B3 _ Try.underlying55 rfl (by rw [Try.size55]; simp [frC_len])) rfl ⟨by first | (rw [HV.out]; rfl) | rw [HV.out], hb⟩
   · rw [show decide (deg X1 ≤ (g : Int)) = false by simpa using e1] at HR1
     have HV := Lib.hid (coV_c (ckR_5 (j := 0) (F := (X1, Y1)) hc0 rfl (by rw [hdv]; exact e1)) (by omega))
     clear hc0 lD hg2 hdg hdv hf1 hf2 hpr e1
     go_upto_region 6 with (first | (refine zlr rfl 107 (.tmp 11) rfl _ rfl 107 (fdC (n : Int) D).toArray (B4) _ Try.underlying107 rfl 65 Try.size107 (by simp [fdC_len]) ?_) | (refine zlr rfl 55 (.tmp 6) rfl _ rfl 55 (frC X1 Y1).toArray (B1) _ Try.underlying55 rfl 128 Try.size55 (by simp [frC_len]) ?_) | (go_at_call 134; with_reducible refine (HR1.out _).mono ?_; rintro e W4 ⟨rfl, hW4⟩; replace B0 := B0.zw hW4; replace B1 := B1.zw hW4; replace B2 := B2.zw hW4; replace B3 := B3.zw hW4; replace B4 := B4.zw hW4; replace hb := (hb).trans (hW4.mono (hb).size)))
     have lt_B0 := B0.lt
     have lt_B1 := B1.lt
     have lt_B2 := B2.lt
     have lt_B3 := B3.lt
     have lt_B4 := B4.lt
     go_wp2_with (first | rw [← z64] | rw [← frC_zero] | (refine wpList_store_rowv rfl 55 (.tmp 8) (.tmp 35) rfl _ rfl (frC (fun _ => 0) (fun _ => 0)).toArray rfl 55 _ (B3) 128 Try.size55 (by simp [frC_len]) (by simp [frC_len]) (frC_all _ _) ?_; try simp only [Act.put]; go_wp2_with fail))
     obtain ⟨W5, hwo, hzQ⟩ : ∃ v : World, v = (W4.setRow (w.heap.size + 1 + 1 + 1) (frC (fun _ => 0) (fun _ => 0)).toArray) ∧ Blk v (w.heap.size) 64 23 (D) ∧ Row v (w.heap.size + 1) 55 (frC X1 Y1).toArray ∧ Row v (w.heap.size + 1 + 1) 55 (frC X2 Y2).toArray ∧ Row v (w.heap.size + 1 + 1 + 1) 55 (frC (fun _ => 0) (fun _ => 0)).toArray ∧ Row v (N1) 107 (fdC (n : Int) D).toArray ∧ Below w.heap.size w v := ⟨_, rfl, (B0.rowOther (by omega)), (B1.rowOther (by omega)), (B2.rowOther (by omega)), (B3.row (frC (fun _ => 0) (fun _ => 0)).toArray), (B4.rowOther (by omega)), (zr hb (by omega) _)⟩
     rw [← hwo]
     clear hwo B0 B1 B2 B3 B4 hb
     obtain ⟨B0, B1, B2, B3, B4, hb⟩ := hzQ
     try simp only [Act.put, pA, pB, pC]
     refine bodyPost_ret (results_rowt rfl _ _ _ _ _ rfl B3 _ Try.underlying55 rfl (by rw [Try.size55]; simp [frC_len])) rfl ⟨by first | (rw [HV.out]; rfl) | rw [HV.out], hb⟩
 · have HV := Lib.hid (coV_c (ckR_1 hc) (by omega))
   go_upto_region 3 with (first | (refine zla (.tmp 5) B0 Try.underlying23 Try.size23 ?_) | (refine zlr rfl 55 (.tmp 6) rfl _ rfl 55 (frC X1 Y1).toArray (B1) _ Try.underlying55 rfl 128 Try.size55 (by simp [frC_len]) ?_) | (refine zlr rfl 55 (.tmp 7) rfl _ rfl 55 (frC X2 Y2).toArray (B2) _ Try.underlying55 rfl 128 Try.size55 (by simp [frC_len]) ?_) | (go_at_call 129; refine (checkForms_any p D hD [(X1, Y1), (X2, Y2)] (by simp [hx1, hy1, hx2, hy2]) (by simp) _ _ hps).mono ?_; rintro e W2 ⟨rfl, hW2⟩; replace B0 := B0.zw hW2; replace B1 := B1.zw hW2; replace B2 := B2.zw hW2; replace B3 := B3.zw hW2; replace hb := (hb).trans (hW2.mono (hb).size); rw [hc]) | (refine wpList_build_frs rfl 61 _ [(X1, Y1), (X2, Y2)] rfl 55 Try.underlying61 Try.elem55 (by simp) (by simp) rfl ?_; intro wa hps hba; replace B0 := B0.zw hba; replace B1 := B1.zw hba; replace B2 := B2.zw hba; replace B3 := B3.zw hba; replace hb := hb.trans (hba.mono hb.size)))
   clear hc
   have lt_B0 := B0.lt
   have lt_B1 := B1.lt
   have lt_B2 := B2.lt
   have lt_B3 := B3.lt
   go_wp2_with (first | rw [← z64] | rw [← frC_zero] | (refine wpList_store_rowv rfl 55 (.tmp 8) (.tmp 20) rfl _ rfl (frC (fun _ => 0) (fun _ => 0)).toArray rfl 55 _ (B3) 128 Try.size55 (by simp [frC_len]) (by simp [frC_len]) (frC_all _ _) ?_; try simp only [Act.put]; go_wp2_with fail))
   obtain ⟨W3, hwo, hzQ⟩ : ∃ v : World, v = (W2.setRow (w.heap.size + 1 + 1 + 1) (frC (fun _ => 0) (fun _ => 0)).toArray) ∧ Blk v (w.heap.size) 64 23 (D) ∧ Row v (w.heap.size + 1) 55 (frC X1 Y1).toArray ∧ Row v (w.heap.size + 1 + 1) 55 (frC X2 Y2).toArray ∧ Row v (w.heap.size + 1 + 1 + 1) 55 (frC (fun _ => 0) (fun _ => 0)).toArray ∧ Below w.heap.size w v := ⟨_, rfl, (B0.rowOther (by omega)), (B1.rowOther (by omega)), (B2.rowOther (by omega)), (B3.row (frC (fun _ => 0) (fun _ => 0)).toArray), (zr hb (by omega) _)⟩
   rw [← hwo]
   clear hwo B0 B1 B2 B3 hb
   obtain ⟨B0, B1, B2, B3, hb⟩ := hzQ
   try simp only [Act.put, pA, pB, pC]
   refine bodyPost_ret (results_rowt rfl _ _ _ _ _ rfl B3 _ Try.underlying55 rfl (by rw [Try.size55]; simp [frC_len])) rfl ⟨by first | (rw [HV.out]; rfl) | rw [HV.out], hb⟩
set_option maxRecDepth 100000 in
set_option maxHeartbeats 3200000 in
theorem spec_ComposeForms_any (p : Int) (D X1 Y1 X2 Y2 : Nat → Nat) (hD : byte D) (hx1 : byte X1) (hy1 : byte Y1) (hx2 : byte X2) (hy2 : byte Y2) (w : World) :
 Calls Try.prog 72 #[.int .i64 p, .agg (zb 64 D), .agg (frC X1 Y1).toArray, .agg (frC X2 Y2).toArray] w fun e w' => e = .returned (.tuple #[.agg (frC (coV p D X1 Y1 X2 Y2).1.1 (coV p D X1 Y1 X2 Y2).1.2).toArray, .int .i64 (coV p D X1 Y1 X2 Y2).2]) ∧ Below w.heap.size w w' := by
 go_enter Try.func72, Try.ntmps72
 go_upto_region 1 with (fail)
 rw [← frC_zero]
 obtain ⟨W1, hwo⟩ : ∃ v : World, v = ((((w.alloc (.cells (zb 64 (D)) 23)).alloc (.cells (frC X1 Y1).toArray 55)).alloc (.cells (frC X2 Y2).toArray 55)).alloc (.cells (frC (fun _ => 0) (fun _ => 0)).toArray 55)) := ⟨_, rfl⟩
 have B0 : Blk W1 (w.heap.size) 64 23 (D) := by subst hwo; have := ((((Blk.new w 64 23 (D)).alloc (.cells (frC X1 Y1).toArray 55)).alloc (.cells (frC X2 Y2).toArray 55)).alloc (.cells (frC (fun _ => 0) (fun _ => 0)).toArray 55)); simpa using this
 have B1 : Row W1 (w.heap.size + 1) 55 (frC X1 Y1).toArray := by subst hwo; have := (((Row.new (w.alloc (.cells (zb 64 (D)) 23)) 55 (frC X1 Y1).toArray).alloc (.cells (frC X2 Y2).toArray 55)).alloc (.cells (frC (fun _ => 0) (fun _ => 0)).toArray 55)); simpa using this
 have B2 : Row W1 (w.heap.size + 1 + 1) 55 (frC X2 Y2).toArray := by subst hwo; have := ((Row.new ((w.alloc (.cells (zb 64 (D)) 23)).alloc (.cells (frC X1 Y1).toArray 55)) 55 (frC X2 Y2).toArray).alloc (.cells (frC (fun _ => 0) (fun _ => 0)).toArray 55)); simpa using this
 have B3 : Row W1 (w.heap.size + 1 + 1 + 1) 55 (frC (fun _ => 0) (fun _ => 0)).toArray := by subst hwo; have := (Row.new (((w.alloc (.cells (zb 64 (D)) 23)).alloc (.cells (frC X1 Y1).toArray 55)).alloc (.cells (frC X2 Y2).toArray 55)) 55 (frC (fun _ => 0) (fun _ => 0)).toArray); simpa using this
 have hb : Below w.heap.size w W1 := by subst hwo; exact (((((Below.refl _ _).alloc (Nat.le_refl _) _).alloc (by simp) _).alloc (by simp; omega) _).alloc (by simp; omega) _)
 rw [← hwo]
 clear hwo
 rcases ckR_three p D [(X1, Y1), (X2, Y2)] with hc | hc | hc
 · obtain ⟨hc0, hrd⟩ := ckR_all hc
   obtain ⟨n, g, rfl, hpr, lD, hg2, hdg, hall⟩ := ckF_fm hc0 (A := X1) (B := Y1) (by simp)
   have hdv : deg D / 2 = (g : Int) := by omega
   have hf1 := hall (X1, Y1) (by simp)
   have hf2 := hall (X2, Y2) (by simp)
   dsimp only at hf1 hf2
   clear hall
   have e1 := hrd (X1, Y1) (by simp)
   have e2 := hrd (X2, Y2) (by simp)
   dsimp only at e1 e2
   rw [hdv] at e1 e2
   have HV := Lib.hid (coV_0 hc hdg)
   have HCP := Lib.hid (fun W => l07Compose_any n g D X1 Y1 X2 Y2 W hpr lD hdg hg2 ⟨hf1, e1⟩ ⟨hf2, e2⟩)
   obtain ⟨Fa, hFa⟩ : ∃ Fa, Fa = (cpF n D g X1 Y1 X2 Y2).1 := ⟨_, rfl⟩
   obtain ⟨Fb, hFb⟩ : ∃ Fb, Fb = (cpF n D g X1 Y1 X2 Y2).2 := ⟨_, rfl⟩
   rw [← hFa, ← hFb] at HCP
   rw [show cpF n D g X1 Y1 X2 Y2 = (Fa, Fb) by rw [hFa, hFb]] at HV
   clear hFa hFb
   go_upto_region 4 with (first | (refine zla (.tmp 5) B0 Try.underlying23 Try.size23 ?_) | (refine zlr rfl 55 (.tmp 6) rfl _ rfl 55 (frC X1 Y1).toArray (B1) _ Try.underlying55 rfl 128 Try.size55 (by simp [frC_len]) ?_) | (refine zlr rfl 55 (.tmp 7) rfl _ rfl 55 (frC X2 Y2).toArray (B2) _ Try.underlying55 rfl 128 Try.size55 (by simp [frC_len]) ?_) | (go_at_call 127; refine (l07Code_red (n : Int) D hD [(X1, Y1), (X2, Y2)] (by simp [hx1, hy1, hx2, hy2]) (by simp) _ _ hps).mono ?_; rintro e W2 ⟨rfl, hW2⟩; replace B0 := B0.zw hW2; replace B1 := B1.zw hW2; replace B2 := B2.zw hW2; replace B3 := B3.zw hW2; replace hb := (hb).trans (hW2.mono (hb).size); rw [hc]) | (refine wpList_build_frs rfl 61 _ [(X1, Y1), (X2, Y2)] rfl 55 Try.underlying61 Try.elem55 (by simp) (by simp) rfl ?_; intro wa hps hba; replace B0 := B0.zw hba; replace B1 := B1.zw hba; replace B2 := B2.zw hba; replace B3 := B3.zw hba; replace hb := hb.trans (hba.mono hb.size)))
   clear hc hc0 hrd lD hg2 hdg hdv hf1 hf2 hpr e1 e2
   have lt_B0 := B0.lt
   have lt_B1 := B1.lt
   have lt_B2 := B2.lt
   have lt_B3 := B3.lt
   go_wp2_with (first | rw [← z64] | (refine zla (.tmp 5) B0 Try.underlying23 Try.size23 ?_) | (refine zlr rfl 55 (.tmp 6) rfl _ rfl 55 (frC X1 Y1).toArray (B1) _ Try.underlying55 rfl 128 Try.size55 (by simp [frC_len]) ?_) | (refine zlr rfl 55 (.tmp 7) rfl _ rfl 55 (frC X2 Y2).toArray (B2) _ Try.underlying55 rfl 128 Try.size55 (by simp [frC_len]) ?_) | (go_at_call 133; refine (HCP.out _).mono ?_; rintro e W3 ⟨rfl, hW3⟩; replace B0 := B0.zw hW3; replace B1 := B1.zw hW3; replace B2 := B2.zw hW3; replace B3 := B3.zw hW3; replace hb := (hb).trans (hW3.mono (hb).size)) | (refine wpList_store_rowv rfl 55 (.tmp 8) (.tmp 25) rfl _ rfl (frC Fa Fb).toArray rfl 55 _ (B3) 128 Try.size55 (by simp [frC_len]) (by simp [frC_len]) (frC_all _ _) ?_; try simp only [Act.put]; go_wp2_with fail))
   obtain ⟨W4, hwo, hzQ⟩ : ∃ v : World, v = (W3.setRow (w.heap.size + 1 + 1 + 1) (frC Fa Fb).toArray) ∧ Blk v (w.heap.size) 64 23 (D) ∧ Row v (w.heap.size + 1) 55 (frC X1 Y1).toArray ∧ Row v (w.heap.size + 1 + 1) 55 (frC X2 Y2).toArray ∧ Row v (w.heap.size + 1 + 1 + 1) 55 (frC Fa Fb).toArray ∧ Below w.heap.size w v := ⟨_, rfl, (B0.rowOther (by omega)), (B1.rowOther (by omega)), (B2.rowOther (by omega)), (B3.row (frC Fa Fb).toArray), (zr hb (by omega) _)⟩
   rw [← hwo]
   clear hwo B0 B1 B2 B3 hb
   obtain ⟨B0, B1, B2, B3, hb⟩ := hzQ
   try simp only [Act.put, pA, pB, pC]
   refine bodyPost_ret (results_rowt rfl _ _ _ _ _ rfl B3 _ Try.underlying55 rfl (by rw [Try.size55]; simp [frC_len])) rfl ⟨by first | (rw [HV.out]; rfl) | rw [HV.out], hb⟩
 · have HV := Lib.hid (coV_c hc (by omega))
   go_upto_region 3 with (first | (refine zla (.tmp 5) B0 Try.underlying23 Try.size23 ?_) | (refine zlr rfl 55 (.tmp 6) rfl _ rfl 55 (frC X1 Y1).toArray (B1) _ Try.underlying55 rfl 128 Try.size55 (by simp [frC_len]) ?_) | (refine zlr rfl 55 (.tmp 7) rfl _ rfl 55 (frC X2 Y2).toArray (B2) _ Try.underlying55 rfl 128 Try.size55 (by simp [frC_len]) ?_) | (go_at_call 127; refine (l07Code_red p D hD [(X1, Y1), (X2, Y2)] (by simp [hx1, hy1, hx2, hy2]) (by simp) _ _ hps).mono ?_; rintro e W2 ⟨rfl, hW2⟩; replace B0 := B0.zw hW2; replace B1 := B1.zw hW2; replace B2 := B2.zw hW2; replace B3 := B3.zw hW2; replace hb := (hb).trans (hW2.mono (hb).size); rw [hc]) | (refine wpList_build_frs rfl 61 _ [(X1, Y1), (X2, Y2)] rfl 55 Try.underlying61 Try.elem55 (by simp) (by simp) rfl ?_; intro wa hps hba; replace B0 := B0.zw hba; replace B1 := B1.zw hba; replace B2 := B2.zw hba; replace B3 := B3.zw hba; replace hb := hb.trans (hba.mono hb.size)))
   clear hc
   have lt_B0 := B0.lt
   have lt_B1 := B1.lt
   have lt_B2 := B2.lt
   have lt_B3 := B3.lt
   go_wp2_with (first | rw [← z64] | rw [← frC_zero] | (refine wpList_store_rowv rfl 55 (.tmp 8) (.tmp 19) rfl _ rfl (frC (fun _ => 0) (fun _ => 0)).toArray rfl 55 _ (B3) 128 Try.size55 (by simp [frC_len]) (by simp [frC_len]) (frC_all _ _) ?_; try simp only [Act.put]; go_wp2_with fail))
   obtain ⟨W3, hwo, hzQ⟩ : ∃ v : World, v = (W2.setRow (w.heap.size + 1 + 1 + 1) (frC (fun _ => 0) (fun _ => 0)).toArray) ∧ Blk v (w.heap.size) 64 23 (D) ∧ Row v (w.heap.size + 1) 55 (frC X1 Y1).toArray ∧ Row v (w.heap.size + 1 + 1) 55 (frC X2 Y2).toArray ∧ Row v (w.heap.size + 1 + 1 + 1) 55 (frC (fun _ => 0) (fun _ => 0)).toArray ∧ Below w.heap.size w v := ⟨_, rfl, (B0.rowOther (by omega)), (B1.rowOther (by omega)), (B2.rowOther (by omega)), (B3.row (frC (fun _ => 0) (fun _ => 0)).toArray), (zr hb (by omega) _)⟩
   rw [← hwo]
   clear hwo B0 B1 B2 B3 hb
   obtain ⟨B0, B1, B2, B3, hb⟩ := hzQ
   try simp only [Act.put, pA, pB, pC]
   refine bodyPost_ret (results_rowt rfl _ _ _ _ _ rfl B3 _ Try.underlying55 rfl (by rw [Try.size55]; simp [frC_len])) rfl ⟨by first | (rw [HV.out]; rfl) | rw [HV.out], hb⟩
 · have HV := Lib.hid (coV_c hc (by omega))
   go_upto_region 3 with (first | (refine zla (.tmp 5) B0 Try.underlying23 Try.size23 ?_) | (refine zlr rfl 55 (.tmp 6) rfl _ rfl 55 (frC X1 Y1).toArray (B1) _ Try.underlying55 rfl 128 Try.size55 (by simp [frC_len]) ?_) | (refine zlr rfl 55 (.tmp 7) rfl _ rfl 55 (frC X2 Y2).toArray (B2) _ Try.underlying55 rfl 128 Try.size55 (by simp [frC_len]) ?_) | (go_at_call 127; refine (l07Code_red p D hD [(X1, Y1), (X2, Y2)] (by simp [hx1, hy1, hx2, hy2]) (by simp) _ _ hps).mono ?_; rintro e W2 ⟨rfl, hW2⟩; replace B0 := B0.zw hW2; replace B1 := B1.zw hW2; replace B2 := B2.zw hW2; replace B3 := B3.zw hW2; replace hb := (hb).trans (hW2.mono (hb).size); rw [hc]) | (refine wpList_build_frs rfl 61 _ [(X1, Y1), (X2, Y2)] rfl 55 Try.underlying61 Try.elem55 (by simp) (by simp) rfl ?_; intro wa hps hba; replace B0 := B0.zw hba; replace B1 := B1.zw hba; replace B2 := B2.zw hba; replace B3 := B3.zw hba; replace hb := hb.trans (hba.mono hb.size)))
   clear hc
   have lt_B0 := B0.lt
   have lt_B1 := B1.lt
   have lt_B2 := B2.lt
   have lt_B3 := B3.lt
   go_wp2_with (first | rw [← z64] | rw [← frC_zero] | (refine wpList_store_rowv rfl 55 (.tmp 8) (.tmp 19) rfl _ rfl (frC (fun _ => 0) (fun _ => 0)).toArray rfl 55 _ (B3) 128 Try.size55 (by simp [frC_len]) (by simp [frC_len]) (frC_all _ _) ?_; try simp only [Act.put]; go_wp2_with fail))
   obtain ⟨W3, hwo, hzQ⟩ : ∃ v : World, v = (W2.setRow (w.heap.size + 1 + 1 + 1) (frC (fun _ => 0) (fun _ => 0)).toArray) ∧ Blk v (w.heap.size) 64 23 (D) ∧ Row v (w.heap.size + 1) 55 (frC X1 Y1).toArray ∧ Row v (w.heap.size + 1 + 1) 55 (frC X2 Y2).toArray ∧ Row v (w.heap.size + 1 + 1 + 1) 55 (frC (fun _ => 0) (fun _ => 0)).toArray ∧ Below w.heap.size w v := ⟨_, rfl, (B0.rowOther (by omega)), (B1.rowOther (by omega)), (B2.rowOther (by omega)), (B3.row (frC (fun _ => 0) (fun _ => 0)).toArray), (zr hb (by omega) _)⟩
   rw [← hwo]
   clear hwo B0 B1 B2 B3 hb
   obtain ⟨B0, B1, B2, B3, hb⟩ := hzQ
   try simp only [Act.put, pA, pB, pC]
   refine bodyPost_ret (results_rowt rfl _ _ _ _ _ rfl B3 _ Try.underlying55 rfl (by rw [Try.size55]; simp [frC_len])) rfl ⟨by first | (rw [HV.out]; rfl) | rw [HV.out], hb⟩
set_option maxRecDepth 100000 in
set_option maxHeartbeats 1600000 in
theorem FnExactComposeForms_walk (p : Int) (D : Nat → Nat) (X1 Y1 : Nat → Nat) (X2 Y2 : Nat → Nat) (hD : byte D) (hX1 : byte X1) (hY1 : byte Y1) (hX2 : byte X2) (hY2 : byte Y2) (w : World) :
 Calls Try.prog 20 #[.int .i64 p, .agg (zb 64 D), .agg (frC X1 Y1).toArray, .agg (frC X2 Y2).toArray] w fun e w' => e = .returned (.bool true) ∧ Below w.heap.size w w' := by
 have HPD := Lib.hid (fun W => toPoly_any D hD W)
 have HFX1 := Lib.hid (fun W => toForm_any X1 Y1 hX1 hY1 W)
 have HFX2 := Lib.hid (fun W => toForm_any X2 Y2 hX2 hY2 W)
 have HS := Lib.hid (fun W => spec_ComposeForms_any p D X1 Y1 X2 Y2 hD hX1 hY1 hX2 hY2 W)
 have HI := Lib.hid (fun W => impl_ComposeForms_any p D X1 Y1 X2 Y2 hD hX1 hY1 hX2 hY2 W)
 obtain ⟨⟨⟨Fa, Fb⟩, j⟩, hV⟩ : ∃ V, V = (coV p D X1 Y1 X2 Y2) := ⟨_, rfl⟩
 rw [← hV] at HS HI
 dsimp only at HS HI
 have hne1 : ((j) != (j)) = false := by simp
 clear hV
 have HE := Lib.hid (fun W => eqForm_same Fa Fb W)
 go_enter Try.func20, Try.ntmps20
 go_upto_region 1 with (fail)
 obtain ⟨W1, hwo⟩ : ∃ v : World, v = (((w.alloc (.cells (zb 64 (D)) 22)).alloc (.cells (frC X1 Y1).toArray 52)).alloc (.cells (frC X2 Y2).toArray 52)) := ⟨_, rfl⟩
 have B0 : Blk W1 (w.heap.size) 64 22 (D) := by subst hwo; have := (((Blk.new w 64 22 (D)).alloc (.cells (frC X1 Y1).toArray 52)).alloc (.cells (frC X2 Y2).toArray 52)); simpa using this
 have B1 : Row W1 (w.heap.size + 1) 52 (frC X1 Y1).toArray := by subst hwo; have := ((Row.new (w.alloc (.cells (zb 64 (D)) 22)) 52 (frC X1 Y1).toArray).alloc (.cells (frC X2 Y2).toArray 52)); simpa using this
 have B2 : Row W1 (w.heap.size + 1 + 1) 52 (frC X2 Y2).toArray := by subst hwo; have := (Row.new ((w.alloc (.cells (zb 64 (D)) 22)).alloc (.cells (frC X1 Y1).toArray 52)) 52 (frC X2 Y2).toArray); simpa using this
 have hb : Below w.heap.size w W1 := by subst hwo; exact ((((Below.refl _ _).alloc (Nat.le_refl _) _).alloc (by simp) _).alloc (by simp; omega) _)
 rw [← hwo]
 clear hwo
 have lt_B0 : (w.heap.size) < W1.heap.size := B0.lt
 have lt_B1 : (w.heap.size + 1) < W1.heap.size := B1.lt
 have lt_B2 : (w.heap.size + 1 + 1) < W1.heap.size := B2.lt
 refine zq Try.mixed (by kernel_rfl) (by kernel_rfl) (fun v => by (simp only [frL, Act.put, pA, pB, pC, Nat.reduceAdd, Nat.zero_add]; exact rfl))
  (fun L v W2 => Below W1.heap.size W1 W2 ∧ (L 11 = true → AR (v 11) W2 W1.heap.size 128 55) ∧ (L 12 = true → PR (v 11) W2 W1.heap.size 55 (frC Fa Fb).toArray) ∧ VF L v [some (.int .i64 p), some (.agg (zb 64 (D))), some (.agg (zb 64 (D))), some (.agg (frC X1 Y1).toArray), some (.agg (frC X1 Y1).toArray), some (.agg (frC X2 Y2).toArray), some (.agg (frC X2 Y2).toArray), some (.tuple #[(.agg (frC Fa Fb).toArray), (.int .i64 j)]), some (.tuple #[(.agg (frC Fa Fb).toArray), (.int .i64 j)]), some (.agg (frC Fa Fb).toArray), some (.int .i64 j), none, none, some (.int .i64 j)]) ?_ ?_ ?_
 · intro v hv0
   exact ⟨(Below.refl _ W1).drew, (fun h => by cases h), (fun h => by cases h), VF.start⟩
 · refine (.cons rfl ?_ (.cons rfl ?_ (.cons rfl ?_ (.cons rfl ?_ (.cons rfl ?_ (.cons rfl ?_ (.cons rfl ?_ (.cons rfl ?_ (.cons rfl ?_ (.cons rfl ?_ (.cons rfl ?_ (.cons rfl ?_ (.cons rfl ?_ (.cons rfl ?_ (.nil _)))))))))))))))
   all_goals intro L v W2 hd hn ⟨hY, h11, h12, V⟩ K hK
   · go_wp2_with fail
     exact hK _ (.int .i64 p) _ (by simp only [Act.put, pA, pB, pC ]) ⟨hY, h11, h12, V.step 0 rfl⟩
   · refine zlc (B0.zw hY) Try.underlying22 Try.size22 ?_
     exact hK _ _ _ rfl ⟨hY, h11, h12, V.step 1 rfl⟩
   · have e1 := V.at (zdq hd 1 rfl) rfl
     go_wp2_with (go_at_call 26; refine (HPD.out _).mono ?_; rintro e wy ⟨rfl, hy⟩)
     exact hK _ (.agg (zb 64 (D))) _ (by simp only [Act.put, pA, pB, pC, e1]) ⟨hY.trans (hy.mono hY.size), (fun h => (h11 h).belowR hy), (fun h => (h12 h).belowR hy), V.step 2 rfl⟩
   · refine wp_load_rowv 52 _ rfl _ rfl 52 _ (B1.zw hY) _ Try.underlying52 rfl 128 Try.size52 (by simp [frC_len]) ?_
     exact hK _ _ _ rfl ⟨hY, h11, h12, V.step 3 rfl⟩
   · have e3 := V.at (zdq hd 3 rfl) rfl
     go_wp2_with (go_at_call 60; refine (HFX1.out _).mono ?_; rintro e wy ⟨rfl, hy⟩)
     exact hK _ (.agg (frC X1 Y1).toArray) _ (by simp only [Act.put, pA, pB, pC, e3]) ⟨hY.trans (hy.mono hY.size), (fun h => (h11 h).belowR hy), (fun h => (h12 h).belowR hy), V.step 4 rfl⟩
   · refine wp_load_rowv 52 _ rfl _ rfl 52 _ (B2.zw hY) _ Try.underlying52 rfl 128 Try.size52 (by simp [frC_len]) ?_
     exact hK _ _ _ rfl ⟨hY, h11, h12, V.step 5 rfl⟩
   · have e5 := V.at (zdq hd 5 rfl) rfl
     go_wp2_with (go_at_call 60; refine (HFX2.out _).mono ?_; rintro e wy ⟨rfl, hy⟩)
     exact hK _ (.agg (frC X2 Y2).toArray) _ (by simp only [Act.put, pA, pB, pC, e5]) ⟨hY.trans (hy.mono hY.size), (fun h => (h11 h).belowR hy), (fun h => (h12 h).belowR hy), V.step 6 rfl⟩
   · have e0 := V.at (zdq hd 0 rfl) rfl
     have e2 := V.at (zdq hd 2 rfl) rfl
     have e4 := V.at (zdq hd 4 rfl) rfl
     have e6 := V.at (zdq hd 6 rfl) rfl
     go_wp2_with (go_at_call 72; refine (HS.out _).mono ?_; rintro e wy ⟨rfl, hy⟩)
     exact hK _ (.tuple #[(.agg (frC Fa Fb).toArray), (.int .i64 j)]) _ (by simp only [Act.put, pA, pB, pC, e0, e2, e4, e6]) ⟨hY.trans (hy.mono hY.size), (fun h => (h11 h).belowR hy), (fun h => (h12 h).belowR hy), V.step 7 rfl⟩
   · have e7 := V.at (zdq hd 7 rfl) rfl
     go_wp2_with fail
     exact hK _ (.tuple #[(.agg (frC Fa Fb).toArray), (.int .i64 j)]) _ (by simp only [Act.put, pA, pB, pC, e7]) ⟨hY, h11, h12, V.step 8 rfl⟩
   · have e8 := V.at (zdq hd 8 rfl) rfl
     go_wp2_with fail
     exact hK _ (.agg (frC Fa Fb).toArray) _ (by simp only [Act.put, pA, pB, pC, e8]) ⟨hY, h11, h12, V.step 9 rfl⟩
   · have e8 := V.at (zdq hd 8 rfl) rfl
     go_wp2_with fail
     exact hK _ (.int .i64 j) _ (by simp only [Act.put, pA, pB, pC, e8]) ⟨hY, h11, h12, V.step 10 rfl⟩
   · go_wp2_with fail
     rw [← frC_zero]
     exact hK _ (.pointer (some ⟨W2.heap.size, 0, none⟩)) _ (by simp only [Act.put, pA, pB, pC ]) ⟨hY.alloc hY.size _, (fun _ => (PR.newR W2 55 _ hY.size).ar (by simp [frC_len])), (fun h => absurd rfl (hn 12 _ rfl h ⟨11, .data⟩ (by simp) rfl)), V.skip 11 rfl⟩
   · have e9 := V.at (zdq hd 9 rfl) rfl
     obtain ⟨gz, b, ea, hN, hgz, hk⟩ := (h11 (zdq hd 11 rfl)).outR
     refine wp_store_rowv 55 _ _ rfl b ea (frC Fa Fb).toArray e9 55 gz hk 128 Try.size55 hgz (by simp [frC_len]) (frC_all _ _) ?_
     exact hK _ undef _ rfl ⟨zr hY hN _, (fun h => (h11 h).rowR hk _ (by simp [frC_len])), (fun _ => by rw [show updV v 12 undef 11 = v 11 from rfl, ea]; exact PR.rowR hk hN _), V.skip 12 rfl⟩
   · have e10 := V.at (zdq hd 10 rfl) rfl
     go_wp2_with fail
     exact hK _ (.int .i64 j) _ (by simp only [Act.put, pA, pB, pC, e10]) ⟨hY, h11, h12, V.step 13 rfl⟩
 · intro L v W2 hL ⟨hY, h11, h12, V⟩
   obtain ⟨k1_11, e11, hNk1_11, hk1_11⟩ := (h12 (hL 12 (by decide))).outR
   have e0 := V.at (hL 0 (by decide)) rfl
   have e1 := V.at (hL 1 (by decide)) rfl
   have e2 := V.at (hL 2 (by decide)) rfl
   have e3 := V.at (hL 3 (by decide)) rfl
   have e4 := V.at (hL 4 (by decide)) rfl
   have e5 := V.at (hL 5 (by decide)) rfl
   have e6 := V.at (hL 6 (by decide)) rfl
   have e7 := V.at (hL 7 (by decide)) rfl
   have e8 := V.at (hL 8 (by decide)) rfl
   have e9 := V.at (hL 9 (by decide)) rfl
   have e10 := V.at (hL 10 (by decide)) rfl
   have e13 := V.at (hL 13 (by decide)) rfl
   clear hL h11 h12 V
   replace B0 := B0.zw hY
   replace B1 := B1.zw hY
   replace B2 := B2.zw hY
   replace hb := hb.trans (hY.mono hb.size)
   clear hY
   simp only [Exit.then, e11, e0, e1, e2, e3, e4, e5, e6, e7, e8, e9, e10, e13]
   clear e11 e0 e1 e2 e3 e4 e5 e6 e7 e8 e9 e10 e13
   have B3 := hk1_11
   clear hk1_11
   have zk1_11_0 : w.heap.size < k1_11 := by omega
   have zk1_11_1 : w.heap.size + 1 < k1_11 := by omega
   have zk1_11_2 : w.heap.size + 1 + 1 < k1_11 := by omega
   clear lt_B0 lt_B1 lt_B2
   go_upto_region 2 with (fail)
   have lt_B0 : (w.heap.size) < W2.heap.size := B0.lt
   have lt_B1 : (w.heap.size + 1) < W2.heap.size := B1.lt
   have lt_B2 : (w.heap.size + 1 + 1) < W2.heap.size := B2.lt
   have lt_B3 : (k1_11) < W2.heap.size := B3.lt
   refine zq Try.mixed (by kernel_rfl) (by kernel_rfl) (fun v => by (simp only [frL, Act.put, pA, pB, pC, Nat.reduceAdd, Nat.zero_add]; exact rfl))
    (fun L v W3 => Below W2.heap.size W2 W3 ∧ (L 11 = true → AR (v 11) W3 W2.heap.size 128 55) ∧ (L 12 = true → PR (v 11) W3 W2.heap.size 55 (frC Fa Fb).toArray) ∧ VF L v [some (.int .i64 p), some (.agg (zb 64 (D))), some (.agg (zb 64 (D))), some (.agg (frC X1 Y1).toArray), some (.agg (frC X1 Y1).toArray), some (.agg (frC X2 Y2).toArray), some (.agg (frC X2 Y2).toArray), some (.tuple #[(.agg (frC Fa Fb).toArray), (.int .i64 j)]), some (.tuple #[(.agg (frC Fa Fb).toArray), (.int .i64 j)]), some (.agg (frC Fa Fb).toArray), some (.int .i64 j), none, none, some (.int .i64 j)]) ?_ ?_ ?_
   · intro v hv0
     exact ⟨(Below.refl _ W2).drew, (fun h => by cases h), (fun h => by cases h), VF.start⟩
   · refine (.cons rfl ?_ (.cons rfl ?_ (.cons rfl ?_ (.cons rfl ?_ (.cons rfl ?_ (.cons rfl ?_ (.cons rfl ?_ (.cons rfl ?_ (.cons rfl ?_ (.cons rfl ?_ (.cons rfl ?_ (.cons rfl ?_ (.cons rfl ?_ (.cons rfl ?_ (.nil _)))))))))))))))
     all_goals intro L v W3 hd hn ⟨hY, h11, h12, V⟩ K hK
     · go_wp2_with fail
       exact hK _ (.int .i64 p) _ (by simp only [Act.put, pA, pB, pC ]) ⟨hY, h11, h12, V.step 0 rfl⟩
     · refine zlc (B0.zw hY) Try.underlying22 Try.size22 ?_
       exact hK _ _ _ rfl ⟨hY, h11, h12, V.step 1 rfl⟩
     · have e1 := V.at (zdq hd 1 rfl) rfl
       go_wp2_with (go_at_call 26; refine (HPD.out _).mono ?_; rintro e wy ⟨rfl, hy⟩)
       exact hK _ (.agg (zb 64 (D))) _ (by simp only [Act.put, pA, pB, pC, e1]) ⟨hY.trans (hy.mono hY.size), (fun h => (h11 h).belowR hy), (fun h => (h12 h).belowR hy), V.step 2 rfl⟩
     · refine wp_load_rowv 52 _ rfl _ rfl 52 _ (B1.zw hY) _ Try.underlying52 rfl 128 Try.size52 (by simp [frC_len]) ?_
       exact hK _ _ _ rfl ⟨hY, h11, h12, V.step 3 rfl⟩
     · have e3 := V.at (zdq hd 3 rfl) rfl
       go_wp2_with (go_at_call 60; refine (HFX1.out _).mono ?_; rintro e wy ⟨rfl, hy⟩)
       exact hK _ (.agg (frC X1 Y1).toArray) _ (by simp only [Act.put, pA, pB, pC, e3]) ⟨hY.trans (hy.mono hY.size), (fun h => (h11 h).belowR hy), (fun h => (h12 h).belowR hy), V.step 4 rfl⟩
     · refine wp_load_rowv 52 _ rfl _ rfl 52 _ (B2.zw hY) _ Try.underlying52 rfl 128 Try.size52 (by simp [frC_len]) ?_
       exact hK _ _ _ rfl ⟨hY, h11, h12, V.step 5 rfl⟩
     · have e5 := V.at (zdq hd 5 rfl) rfl
       go_wp2_with (go_at_call 60; refine (HFX2.out _).mono ?_; rintro e wy ⟨rfl, hy⟩)
       exact hK _ (.agg (frC X2 Y2).toArray) _ (by simp only [Act.put, pA, pB, pC, e5]) ⟨hY.trans (hy.mono hY.size), (fun h => (h11 h).belowR hy), (fun h => (h12 h).belowR hy), V.step 6 rfl⟩
     · have e0 := V.at (zdq hd 0 rfl) rfl
       have e2 := V.at (zdq hd 2 rfl) rfl
       have e4 := V.at (zdq hd 4 rfl) rfl
       have e6 := V.at (zdq hd 6 rfl) rfl
       go_wp2_with (go_at_call 73; refine (HI.out _).mono ?_; rintro e wy ⟨rfl, hy⟩)
       exact hK _ (.tuple #[(.agg (frC Fa Fb).toArray), (.int .i64 j)]) _ (by simp only [Act.put, pA, pB, pC, e0, e2, e4, e6]) ⟨hY.trans (hy.mono hY.size), (fun h => (h11 h).belowR hy), (fun h => (h12 h).belowR hy), V.step 7 rfl⟩
     · have e7 := V.at (zdq hd 7 rfl) rfl
       go_wp2_with fail
       exact hK _ (.tuple #[(.agg (frC Fa Fb).toArray), (.int .i64 j)]) _ (by simp only [Act.put, pA, pB, pC, e7]) ⟨hY, h11, h12, V.step 8 rfl⟩
     · have e8 := V.at (zdq hd 8 rfl) rfl
       go_wp2_with fail
       exact hK _ (.agg (frC Fa Fb).toArray) _ (by simp only [Act.put, pA, pB, pC, e8]) ⟨hY, h11, h12, V.step 9 rfl⟩
     · have e8 := V.at (zdq hd 8 rfl) rfl
       go_wp2_with fail
       exact hK _ (.int .i64 j) _ (by simp only [Act.put, pA, pB, pC, e8]) ⟨hY, h11, h12, V.step 10 rfl⟩
     · go_wp2_with fail
       rw [← frC_zero]
       exact hK _ (.pointer (some ⟨W3.heap.size, 0, none⟩)) _ (by simp only [Act.put, pA, pB, pC ]) ⟨hY.alloc hY.size _, (fun _ => (PR.newR W3 55 _ hY.size).ar (by simp [frC_len])), (fun h => absurd rfl (hn 12 _ rfl h ⟨11, .data⟩ (by simp) rfl)), V.skip 11 rfl⟩
     · have e9 := V.at (zdq hd 9 rfl) rfl
       obtain ⟨gz, b, ea, hN, hgz, hk⟩ := (h11 (zdq hd 11 rfl)).outR
       refine wp_store_rowv 55 _ _ rfl b ea (frC Fa Fb).toArray e9 55 gz hk 128 Try.size55 hgz (by simp [frC_len]) (frC_all _ _) ?_
       exact hK _ undef _ rfl ⟨zr hY hN _, (fun h => (h11 h).rowR hk _ (by simp [frC_len])), (fun _ => by rw [show updV v 12 undef 11 = v 11 from rfl, ea]; exact PR.rowR hk hN _), V.skip 12 rfl⟩
     · have e10 := V.at (zdq hd 10 rfl) rfl
       go_wp2_with fail
       exact hK _ (.int .i64 j) _ (by simp only [Act.put, pA, pB, pC, e10]) ⟨hY, h11, h12, V.step 13 rfl⟩
   · intro L v W3 hL ⟨hY, h11, h12, V⟩
     obtain ⟨k2_11, e11, hNk2_11, hk2_11⟩ := (h12 (hL 12 (by decide))).outR
     have e0 := V.at (hL 0 (by decide)) rfl
     have e1 := V.at (hL 1 (by decide)) rfl
     have e2 := V.at (hL 2 (by decide)) rfl
     have e3 := V.at (hL 3 (by decide)) rfl
     have e4 := V.at (hL 4 (by decide)) rfl
     have e5 := V.at (hL 5 (by decide)) rfl
     have e6 := V.at (hL 6 (by decide)) rfl
     have e7 := V.at (hL 7 (by decide)) rfl
     have e8 := V.at (hL 8 (by decide)) rfl
     have e9 := V.at (hL 9 (by decide)) rfl
     have e10 := V.at (hL 10 (by decide)) rfl
     have e13 := V.at (hL 13 (by decide)) rfl
     clear hL h11 h12 V
     replace B0 := B0.zw hY
     replace B1 := B1.zw hY
     replace B2 := B2.zw hY
     replace B3 := B3.zw hY
     replace hb := hb.trans (hY.mono hb.size)
     clear hY
     simp only [Exit.then, e11, e0, e1, e2, e3, e4, e5, e6, e7, e8, e9, e10, e13]
     clear e11 e0 e1 e2 e3 e4 e5 e6 e7 e8 e9 e10 e13
     have B4 := hk2_11
     clear hk2_11
     have zk2_11_0 : w.heap.size < k2_11 := by omega
     have zk2_11_1 : w.heap.size + 1 < k2_11 := by omega
     have zk2_11_2 : w.heap.size + 1 + 1 < k2_11 := by omega
     have zk2_11_3 : k1_11 < k2_11 := by omega
     clear lt_B0 lt_B1 lt_B2 lt_B3
     go_upto_region 3 with (fail)
     go_wp2_with (first | (refine zlr rfl 55 (.tmp 11) rfl _ rfl 55 (frC Fa Fb).toArray (B4) _ Try.underlying55 rfl 128 Try.size55 (by simp [frC_len]) ?_) | (refine zlr rfl 55 (.tmp 9) rfl _ rfl 55 (frC Fa Fb).toArray (B3) _ Try.underlying55 rfl 128 Try.size55 (by simp [frC_len]) ?_) | (go_at_call 64; refine (HE.out _).mono ?_; rintro e W4 ⟨rfl, hW4⟩; replace B0 := B0.zw hW4; replace B1 := B1.zw hW4; replace B2 := B2.zw hW4; replace B3 := B3.zw hW4; replace B4 := B4.zw hW4; replace hb := (hb).trans (hW4.mono (hb).size)))
     go_ret
     exact ⟨rfl, hb⟩
end Go.Proofs.Ytoncepgcfifgbaa
end
