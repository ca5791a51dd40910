/-
  What the rows of this claim rest on: arrays of bytes, walks of the functions, plain mathematics.
-/
import Derived.Test.YtoncepgcfifgbaaZfPowerOfForm2
section
namespace Go.Proofs.Ytoncepgcfifgbaa
open Go Go.RowKit
set_option linter.unusedVariables false
set_option linter.unusedSimpArgs false
attribute [local irreducible] deg invN quoP resP prd bzD bzU bzW sqP ngP mkP okA monB dvN rdR cpF
theorem rangeAt_head64 {w : World} {b o : Nat} {A B : Nat → Nat} (h : w.rangeAt b o (frC A B)) : w.rangeAt b o (bl 64 A) := by
 intro j v hv
 have hj : j < 64 := by
  have := (List.getElem?_eq_some_iff.1 hv).1
  rwa [zl] at this
 exact h j v (by unfold frC; rw [List.getElem?_append_left (by rw [zl]; exact hj)]; exact hv)
set_option maxRecDepth 100000 in
set_option maxHeartbeats 3200000 in
theorem l07Code_red (p : Int) (D : Nat → Nat) (hD : byte D) (Fs : List ((Nat → Nat) × (Nat → Nat))) (hF : ∀ F, F ∈ Fs → byte F.1 ∧ byte F.2) (hlen : Fs.length ≤ 8) (bS : Nat) (w : World) (B0 : Row w bS 55 (fmL Fs).toArray) :
 Calls Try.prog 127 #[.int .i64 p, .agg (zb 64 D), .bool true, .slice (some ⟨bS, 0, none⟩) Fs.length Fs.length] w fun e w' => e = .returned (.int .i64 (ckR p D Fs)) ∧ Below w.heap.size w w' := by
 have HDC := Lib.hid (fun W => l07Is_any p D hD W)
 have HNO := Lib.hid (fun (j : Nat) F (hj : Fs[j]? = some F) h => ckF_no (p := p) (D := D) hj h)
 obtain ⟨NL, hNL⟩ : ∃ NL, NL = Fs.length := ⟨_, rfl⟩
 have HNL := Lib.hid hNL
 rw [← hNL] at hlen ⊢
 clear hNL
 have zx_0 := B0.lt
 go_enter Try.func127, Try.ntmps127
 go_upto_region 1 with (fail)
 obtain ⟨W1, hwo⟩ : ∃ v : World, v = (w.alloc (.cells (zb 64 (D)) 23)) := ⟨_, rfl⟩
 have B1 : Blk W1 (w.heap.size) 64 23 (D) := by subst hwo; have := (Blk.new w 64 23 (D)); simpa using this
 replace B0 : Row W1 (bS) 55 (fmL Fs).toArray := by subst hwo; exact (B0.alloc (.cells (zb 64 (D)) 23))
 have hb : Below w.heap.size w W1 := by subst hwo; exact ((Below.refl _ _).alloc (Nat.le_refl _) _)
 rw [← hwo]
 clear hwo
 cases hf : dcB p D with
 | false =>
  have HV := Lib.hid (ckR_1 (ckF_d (p := p) (D := D) (Fs := Fs) hf))
  go_upto_region 2 with (first | (refine zla (.tmp 5) B1 Try.underlying23 Try.size23 ?_) | (go_at_call 124; refine (HDC.out _).mono ?_; rintro e W2 ⟨rfl, hW2⟩; replace B0 := B0.zw hW2; replace B1 := B1.zw hW2; replace hb := (hb).trans (hW2.mono (hb).size); rw [hf]))
  go_wp2_with fail
  go_ret
  exact ⟨by rw [HV.out]; rfl, hb⟩
 | true =>
  have HYES := Lib.hid (fun h => ckF_yes (p := p) (D := D) (Fs := Fs) hf h)
  obtain ⟨n, g, rfl, hpr, lD, hg2, hdg⟩ := dcB_out hf
  have HFM := Lib.hid (fun F (h : F ∈ Fs) W => l07Form_any n D F.1 F.2 W hpr lD (hF F h).1 (hF F h).2)
  have hdv : deg D / 2 = (g : Int) := by omega
  have HGN := Lib.hid (fun W => l07Genus_any g D W hdg)
  have HR5 := Lib.hid (fun h (j : Nat) F (hj : Fs[j]? = some F) (h2 : ¬ deg F.1 ≤ deg D / 2) => ckR_5 (p := (n : Int)) (D := D) h hj h2)
  have HR0 := Lib.hid (fun h h2 => ckR_0 (p := (n : Int)) (D := D) (Fs := Fs) h h2)
  rw [hdv] at HR5 HR0
  clear hF lD hg2 hdg hdv
  go_upto_region 3 with (first | (refine zla (.tmp 5) B1 Try.underlying23 Try.size23 ?_) | (go_at_call 124; refine (HDC.out _).mono ?_; rintro e W2 ⟨rfl, hW2⟩; replace B0 := B0.zw hW2; replace B1 := B1.zw hW2; replace hb := (hb).trans (hW2.mono (hb).size); rw [hf]))
  clear hf HDC
  go_wp2_with fail
  go_loopw [9] (fun c wr => ∃ j : Nat, c = .int .i64 (j : Int) ∧ j ≤ NL ∧ Hid (∀ (i : Nat) (F : ((Nat → Nat) × (Nat → Nat))), i < j → Fs[i]? = some F → fmB (n : Int) D F.1 F.2 = true) ∧ Below w.heap.size w wr ∧ Row wr (bS) 55 (fmL Fs).toArray ∧ Blk wr (w.heap.size) 64 23 D) (fun c _ => NL - (intOf c).toNat)
  case atStart => exact ⟨0, rfl, Nat.zero_le _, Lib.hid (fun i F hi => absurd hi (Nat.not_lt_zero i)), hb, B0, B1⟩
  case round =>
   clear hb B0 B1
   obtain ⟨j, rfl, hjn, hall, hb, B0, B1⟩ := hrel
   by_cases hj : j < NL
   · have hjI : (j : Int) < (NL : Int) := by omega
     have hj' : j < Fs.length := by rw [← HNL.out]; exact hj
     obtain ⟨F, hF⟩ : ∃ F, Fs[j]? = some F := ⟨_, List.getElem?_eq_getElem hj'⟩
     have HFJ := Lib.hid hF
     have HSF := Lib.hid (HFM.out F (List.mem_of_getElem? hF))
     clear hF hj'
     cases hr : fmB (n : Int) D F.1 F.2 with
     | false =>
      have HV := Lib.hid (ckR_1 (HNO.out j F HFJ.out hr))
      rw [hr] at HSF
      clear hr
      go_upto_region 6 with (fail)
      refine zq Try.mixed (by kernel_rfl) (by kernel_rfl) (fun v => by (simp only [frL, Act.put, pA, pB, pC, Nat.reduceAdd, Nat.zero_add]; exact rfl))
       (fun L v W3 => Below wr.heap.size wr W3 ∧ VF L v [some (.int .i64 (n : Int)), some (.agg (zb 64 (D))), some (.slice (some ⟨bS, 0, none⟩) NL NL), some (.int .i64 (j : Int)), some (.pointer (some ⟨bS, j * 128, none⟩)), some (.agg (frC F.1 F.2).toArray), some (.bool false), some (.bool true)]) ?_ ?_ ?_
      · intro v hv0
        exact ⟨(Below.refl _ wr).drew, VF.start⟩
      · refine (.cons rfl ?_ (.cons rfl ?_ (.cons rfl ?_ (.cons rfl ?_ (.cons rfl ?_ (.cons rfl ?_ (.cons rfl ?_ (.cons rfl ?_ (.nil _)))))))))
        all_goals intro L v W3 hd hn ⟨hY, V⟩ K hK
        · go_wp2_with fail
          exact hK _ (.int .i64 (n : Int)) _ (by simp only [Act.put, pA, pB, pC ]) ⟨hY, V.step 0 rfl⟩
        · refine zlc (B1.zw hY) Try.underlying23 Try.size23 ?_
          exact hK _ _ _ rfl ⟨hY, V.step 1 rfl⟩
        · go_wp2_with fail
          exact hK _ (.slice (some ⟨bS, 0, none⟩) NL NL) _ (by simp only [Act.put, pA, pB, pC ]) ⟨hY, V.step 2 rfl⟩
        · go_wp2_with fail
          exact hK _ (.int .i64 (j : Int)) _ (by simp only [Act.put, pA, pB, pC ]) ⟨hY, V.step 3 rfl⟩
        · have e2 := V.at (zdq hd 2 rfl) rfl
          have e3 := V.at (zdq hd 3 rfl) rfl
          go_wp2_with fail
          exact hK _ (.pointer (some ⟨bS, j * 128, none⟩)) _ (by simp only [Act.put, pA, pB, pC, e2, e3]) ⟨hY, V.step 4 rfl⟩
        · have e4 := V.at (zdq hd 4 rfl) rfl
          refine wp_load_mid 55 _ rfl _ (j * 128) e4 _ _ ((B0.zw hY).frAt HFJ.out) Try.underlying55 rfl (by rw [frC_len]; exact Try.size55) ?_
          exact hK _ _ _ rfl ⟨hY, V.step 5 rfl⟩
        · have e0 := V.at (zdq hd 0 rfl) rfl
          have e1 := V.at (zdq hd 1 rfl) rfl
          have e5 := V.at (zdq hd 5 rfl) rfl
          go_wp2_with (go_at_call 125; refine (HSF.out _).mono ?_; rintro e wy ⟨rfl, hy⟩)
          exact hK _ (.bool false) _ (by simp only [Act.put, pA, pB, pC, e0, e1, e5]) ⟨hY.trans (hy.mono hY.size), V.step 6 rfl⟩
        · have e6 := V.at (zdq hd 6 rfl) rfl
          go_wp2_with fail
          exact hK _ (.bool true) _ (by simp only [Act.put, pA, pB, pC, e6]) ⟨hY, V.step 7 rfl⟩
      · intro L v W3 hL ⟨hY, V⟩
        have e0 := V.at (hL 0 (by decide)) rfl
        have e1 := V.at (hL 1 (by decide)) rfl
        have e2 := V.at (hL 2 (by decide)) rfl
        have e3 := V.at (hL 3 (by decide)) rfl
        have e4 := V.at (hL 4 (by decide)) rfl
        have e5 := V.at (hL 5 (by decide)) rfl
        have e6 := V.at (hL 6 (by decide)) rfl
        have e7 := V.at (hL 7 (by decide)) rfl
        clear hL V
        replace B0 := B0.zw hY
        replace B1 := B1.zw hY
        replace hb := hb.trans (hY.mono hb.size)
        clear hY
        simp only [Exit.then, e0, e1, e2, e3, e4, e5, e6, e7]
        clear e0 e1 e2 e3 e4 e5 e6 e7
        go_wp2_with fail
        go_ret
        exact ⟨by rw [HV.out]; rfl, hb⟩
     | true =>
      have HA := Lib.hid (show ∀ (i : Nat) (G : ((Nat → Nat) × (Nat → Nat))), i < j + 1 → Fs[i]? = some G → fmB (n : Int) D G.1 G.2 = true from fun i G hi hG => by
       by_cases e : i = j
       · subst e; rw [HFJ.out] at hG; injection hG with hG; subst hG; exact hr
       · exact hall.out i G (by omega) hG)
      rw [hr] at HSF
      clear hr
      go_upto_region 6 with (fail)
      refine zq Try.mixed (by kernel_rfl) (by kernel_rfl) (fun v => by (simp only [frL, Act.put, pA, pB, pC, Nat.reduceAdd, Nat.zero_add]; exact rfl))
       (fun L v W3 => Below wr.heap.size wr W3 ∧ VF L v [some (.int .i64 (n : Int)), some (.agg (zb 64 (D))), some (.slice (some ⟨bS, 0, none⟩) NL NL), some (.int .i64 (j : Int)), some (.pointer (some ⟨bS, j * 128, none⟩)), some (.agg (frC F.1 F.2).toArray), some (.bool true), some (.bool false)]) ?_ ?_ ?_
      · intro v hv0
        exact ⟨(Below.refl _ wr).drew, VF.start⟩
      · refine (.cons rfl ?_ (.cons rfl ?_ (.cons rfl ?_ (.cons rfl ?_ (.cons rfl ?_ (.cons rfl ?_ (.cons rfl ?_ (.cons rfl ?_ (.nil _)))))))))
        all_goals intro L v W3 hd hn ⟨hY, V⟩ K hK
        · go_wp2_with fail
          exact hK _ (.int .i64 (n : Int)) _ (by simp only [Act.put, pA, pB, pC ]) ⟨hY, V.step 0 rfl⟩
        · refine zlc (B1.zw hY) Try.underlying23 Try.size23 ?_
          exact hK _ _ _ rfl ⟨hY, V.step 1 rfl⟩
        · go_wp2_with fail
          exact hK _ (.slice (some ⟨bS, 0, none⟩) NL NL) _ (by simp only [Act.put, pA, pB, pC ]) ⟨hY, V.step 2 rfl⟩
        · go_wp2_with fail
          exact hK _ (.int .i64 (j : Int)) _ (by simp only [Act.put, pA, pB, pC ]) ⟨hY, V.step 3 rfl⟩
        · have e2 := V.at (zdq hd 2 rfl) rfl
          have e3 := V.at (zdq hd 3 rfl) rfl
          go_wp2_with fail
          exact hK _ (.pointer (some ⟨bS, j * 128, none⟩)) _ (by simp only [Act.put, pA, pB, pC, e2, e3]) ⟨hY, V.step 4 rfl⟩
        · have e4 := V.at (zdq hd 4 rfl) rfl
          refine wp_load_mid 55 _ rfl _ (j * 128) e4 _ _ ((B0.zw hY).frAt HFJ.out) Try.underlying55 rfl (by rw [frC_len]; exact Try.size55) ?_
          exact hK _ _ _ rfl ⟨hY, V.step 5 rfl⟩
        · have e0 := V.at (zdq hd 0 rfl) rfl
          have e1 := V.at (zdq hd 1 rfl) rfl
          have e5 := V.at (zdq hd 5 rfl) rfl
          go_wp2_with (go_at_call 125; refine (HSF.out _).mono ?_; rintro e wy ⟨rfl, hy⟩)
          exact hK _ (.bool true) _ (by simp only [Act.put, pA, pB, pC, e0, e1, e5]) ⟨hY.trans (hy.mono hY.size), V.step 6 rfl⟩
        · have e6 := V.at (zdq hd 6 rfl) rfl
          go_wp2_with fail
          exact hK _ (.bool false) _ (by simp only [Act.put, pA, pB, pC, e6]) ⟨hY, V.step 7 rfl⟩
      · intro L v W3 hL ⟨hY, V⟩
        have e0 := V.at (hL 0 (by decide)) rfl
        have e1 := V.at (hL 1 (by decide)) rfl
        have e2 := V.at (hL 2 (by decide)) rfl
        have e3 := V.at (hL 3 (by decide)) rfl
        have e4 := V.at (hL 4 (by decide)) rfl
        have e5 := V.at (hL 5 (by decide)) rfl
        have e6 := V.at (hL 6 (by decide)) rfl
        have e7 := V.at (hL 7 (by decide)) rfl
        clear hL V
        replace B0 := B0.zw hY
        replace B1 := B1.zw hY
        replace hb := hb.trans (hY.mono hb.size)
        clear hY
        simp only [Exit.then, e0, e1, e2, e3, e4, e5, e6, e7]
        clear e0 e1 e2 e3 e4 e5 e6 e7
        go_wp2_with fail
        go_roundw
        case rel => exact ⟨j + 1, by go_num, by omega, HA, hb, B0, B1⟩
        case measure => simp [intOf] <;> omega
   · have hjI : ¬ (j : Int) < (NL : Int) := by omega
     have HV0 := Lib.hid (HYES.out (fun i F hF => hall.out i F (by have := (List.getElem?_eq_some_iff.1 hF).1; have := HNL.out; omega) hF))
     clear hall
     go_wp2_with fail
     clear hjI hj hjn
     go_loopw [10] (fun c wr => ∃ j : Nat, c = .int .i64 (j : Int) ∧ j ≤ NL ∧ Hid (∀ (i : Nat) (F : ((Nat → Nat) × (Nat → Nat))), i < j → Fs[i]? = some F → deg F.1 ≤ (g : Int)) ∧ Below w.heap.size w wr ∧ Row wr (bS) 55 (fmL Fs).toArray ∧ Blk wr (w.heap.size) 64 23 D) (fun c _ => NL - (intOf c).toNat)
     case atStart => exact ⟨0, rfl, Nat.zero_le _, Lib.hid (fun i F hi => absurd hi (Nat.not_lt_zero i)), hb, B0, B1⟩
     case round =>
      clear hb B0 B1
      obtain ⟨j, rfl, hjn, hall, hb, B0, B1⟩ := hrel
      by_cases hj : j < NL
      · have hjI : (j : Int) < (NL : Int) := by omega
        have hj' : j < Fs.length := by rw [← HNL.out]; exact hj
        obtain ⟨F, hF⟩ : ∃ F, Fs[j]? = some F := ⟨_, List.getElem?_eq_getElem hj'⟩
        have HFJ := Lib.hid hF
        clear hF hj'
        by_cases hd : deg F.1 ≤ (g : Int)
        · have HA := Lib.hid (show ∀ (i : Nat) (G : ((Nat → Nat) × (Nat → Nat))), i < j + 1 → Fs[i]? = some G → deg G.1 ≤ (g : Int) from fun i G hi hG => by
          by_cases e : i = j
          · subst e; rw [HFJ.out] at hG; injection hG with hG; subst hG; exact hd
          · exact hall.out i G (by omega) hG)
          go_upto_region 11 with (fail)
          refine zq Try.mixed (by kernel_rfl) (by kernel_rfl) (fun v => by (simp only [frL, Act.put, pA, pB, pC, Nat.reduceAdd, Nat.zero_add]; exact rfl))
           (fun L v W3 => Below wr.heap.size wr W3 ∧ VF L v [some (.slice (some ⟨bS, 0, none⟩) NL NL), some (.int .i64 (j : Int)), some (.pointer (some ⟨bS, j * 128, none⟩)), some (.pointer (some ⟨bS, j * 128, none⟩)), some (.agg (zb 64 (F.1))), some (.int .i64 (deg F.1)), some (.agg (zb 64 (D))), some (.int .i64 (g : Int)), some (.bool false)]) ?_ ?_ ?_
          · intro v hv0
            exact ⟨(Below.refl _ wr).drew, VF.start⟩
          · refine (.cons rfl ?_ (.cons rfl ?_ (.cons rfl ?_ (.cons rfl ?_ (.cons rfl ?_ (.cons rfl ?_ (.cons rfl ?_ (.cons rfl ?_ (.cons rfl ?_ (.nil _))))))))))
            all_goals intro L v W3 hd hn ⟨hY, V⟩ K hK
            · go_wp2_with fail
              exact hK _ (.slice (some ⟨bS, 0, none⟩) NL NL) _ (by simp only [Act.put, pA, pB, pC ]) ⟨hY, V.step 0 rfl⟩
            · go_wp2_with fail
              exact hK _ (.int .i64 (j : Int)) _ (by simp only [Act.put, pA, pB, pC ]) ⟨hY, V.step 1 rfl⟩
            · have e0 := V.at (zdq hd 0 rfl) rfl
              have e1 := V.at (zdq hd 1 rfl) rfl
              go_wp2_with fail
              exact hK _ (.pointer (some ⟨bS, j * 128, none⟩)) _ (by simp only [Act.put, pA, pB, pC, e0, e1]) ⟨hY, V.step 2 rfl⟩
            · have e2 := V.at (zdq hd 2 rfl) rfl
              go_wp2_with fail
              exact hK _ (.pointer (some ⟨bS, j * 128, none⟩)) _ (by simp only [Act.put, pA, pB, pC, e2]) ⟨hY, V.step 3 rfl⟩
            · have e3 := V.at (zdq hd 3 rfl) rfl
              refine wp_load_mid 23 _ rfl _ (j * 128) e3 (bl 64 F.1) _ (rangeAt_head64 (((B0.zw hY)).frAt HFJ.out)) Try.underlying23 rfl (by rw [zl]; exact Try.size23) ?_
              exact hK _ _ _ rfl ⟨hY, V.step 4 rfl⟩
            · have e4 := V.at (zdq hd 4 rfl) rfl
              go_wp2_with (go_at_call 88; refine (l01Deg_any F.1 _).mono ?_; rintro e wy ⟨rfl, hy⟩)
              exact hK _ (.int .i64 (deg F.1)) _ (by simp only [Act.put, pA, pB, pC, e4]) ⟨hY.trans (hy.mono hY.size), V.step 5 rfl⟩
            · refine zlc (B1.zw hY) Try.underlying23 Try.size23 ?_
              exact hK _ _ _ rfl ⟨hY, V.step 6 rfl⟩
            · have e6 := V.at (zdq hd 6 rfl) rfl
              go_wp2_with (go_at_call 165; refine (HGN.out _).mono ?_; rintro e wy ⟨rfl, hy⟩)
              exact hK _ (.int .i64 (g : Int)) _ (by simp only [Act.put, pA, pB, pC, e6]) ⟨hY.trans (hy.mono hY.size), V.step 7 rfl⟩
            · have e5 := V.at (zdq hd 5 rfl) rfl
              have e7 := V.at (zdq hd 7 rfl) rfl
              go_wp2_with fail
              try rw [show decide ((g : Int) < deg F.1) = false by simp; omega]
              try rw [show decide (deg F.1 > (g : Int)) = false by simp; omega]
              exact hK _ (.bool false) _ (by simp only [Act.put, pA, pB, pC, e5, e7]) ⟨hY, V.step 8 rfl⟩
          · intro L v W3 hL ⟨hY, V⟩
            have e0 := V.at (hL 0 (by decide)) rfl
            have e1 := V.at (hL 1 (by decide)) rfl
            have e2 := V.at (hL 2 (by decide)) rfl
            have e3 := V.at (hL 3 (by decide)) rfl
            have e4 := V.at (hL 4 (by decide)) rfl
            have e5 := V.at (hL 5 (by decide)) rfl
            have e6 := V.at (hL 6 (by decide)) rfl
            have e7 := V.at (hL 7 (by decide)) rfl
            have e8 := V.at (hL 8 (by decide)) rfl
            clear hL V
            replace B0 := B0.zw hY
            replace B1 := B1.zw hY
            replace hb := hb.trans (hY.mono hb.size)
            clear hY
            simp only [Exit.then, e0, e1, e2, e3, e4, e5, e6, e7, e8]
            clear e0 e1 e2 e3 e4 e5 e6 e7 e8
            go_wp2_with fail
            go_roundw
            case rel => exact ⟨j + 1, by go_num, by omega, HA, hb, B0, B1⟩
            case measure => simp [intOf] <;> omega
        · have HV := Lib.hid (HR5.out HV0.out j F HFJ.out (by omega))
          go_upto_region 11 with (fail)
          refine zq Try.mixed (by kernel_rfl) (by kernel_rfl) (fun v => by (simp only [frL, Act.put, pA, pB, pC, Nat.reduceAdd, Nat.zero_add]; exact rfl))
           (fun L v W3 => Below wr.heap.size wr W3 ∧ VF L v [some (.slice (some ⟨bS, 0, none⟩) NL NL), some (.int .i64 (j : Int)), some (.pointer (some ⟨bS, j * 128, none⟩)), some (.pointer (some ⟨bS, j * 128, none⟩)), some (.agg (zb 64 (F.1))), some (.int .i64 (deg F.1)), some (.agg (zb 64 (D))), some (.int .i64 (g : Int)), some (.bool true)]) ?_ ?_ ?_
          · intro v hv0
            exact ⟨(Below.refl _ wr).drew, VF.start⟩
          · refine (.cons rfl ?_ (.cons rfl ?_ (.cons rfl ?_ (.cons rfl ?_ (.cons rfl ?_ (.cons rfl ?_ (.cons rfl ?_ (.cons rfl ?_ (.cons rfl ?_ (.nil _))))))))))
            all_goals intro L v W3 hd hn ⟨hY, V⟩ K hK
            · go_wp2_with fail
              exact hK _ (.slice (some ⟨bS, 0, none⟩) NL NL) _ (by simp only [Act.put, pA, pB, pC ]) ⟨hY, V.step 0 rfl⟩
            · go_wp2_with fail
              exact hK _ (.int .i64 (j : Int)) _ (by simp only [Act.put, pA, pB, pC ]) ⟨hY, V.step 1 rfl⟩
            · have e0 := V.at (zdq hd 0 rfl) rfl
              have e1 := V.at (zdq hd 1 rfl) rfl
              go_wp2_with fail
              exact hK _ (.pointer (some ⟨bS, j * 128, none⟩)) _ (by simp only [Act.put, pA, pB, pC, e0, e1]) ⟨hY, V.step 2 rfl⟩
            · have e2 := V.at (zdq hd 2 rfl) rfl
              go_wp2_with fail
              exact hK _ (.pointer (some ⟨bS, j * 128, none⟩)) _ (by simp only [Act.put, pA, pB, pC, e2]) ⟨hY, V.step 3 rfl⟩
            · have e3 := V.at (zdq hd 3 rfl) rfl
              refine wp_load_mid 23 _ rfl _ (j * 128) e3 (bl 64 F.1) _ (rangeAt_head64 (((B0.zw hY)).frAt HFJ.out)) Try.underlying23 rfl (by rw [zl]; exact Try.size23) ?_
              exact hK _ _ _ rfl ⟨hY, V.step 4 rfl⟩
            · have e4 := V.at (zdq hd 4 rfl) rfl
              go_wp2_with (go_at_call 88; refine (l01Deg_any F.1 _).mono ?_; rintro e wy ⟨rfl, hy⟩)
              exact hK _ (.int .i64 (deg F.1)) _ (by simp only [Act.put, pA, pB, pC, e4]) ⟨hY.trans (hy.mono hY.size), V.step 5 rfl⟩
            · refine zlc (B1.zw hY) Try.underlying23 Try.size23 ?_
              exact hK _ _ _ rfl ⟨hY, V.step 6 rfl⟩
            · have e6 := V.at (zdq hd 6 rfl) rfl
              go_wp2_with (go_at_call 165; refine (HGN.out _).mono ?_; rintro e wy ⟨rfl, hy⟩)
              exact hK _ (.int .i64 (g : Int)) _ (by simp only [Act.put, pA, pB, pC, e6]) ⟨hY.trans (hy.mono hY.size), V.step 7 rfl⟩
            · have e5 := V.at (zdq hd 5 rfl) rfl
              have e7 := V.at (zdq hd 7 rfl) rfl
              go_wp2_with fail
              try rw [show decide ((g : Int) < deg F.1) = true by simp; omega]
              try rw [show decide (deg F.1 > (g : Int)) = true by simp; omega]
              exact hK _ (.bool true) _ (by simp only [Act.put, pA, pB, pC, e5, e7]) ⟨hY, V.step 8 rfl⟩
          · intro L v W3 hL ⟨hY, V⟩
            have e0 := V.at (hL 0 (by decide)) rfl
            have e1 := V.at (hL 1 (by decide)) rfl
            have e2 := V.at (hL 2 (by decide)) rfl
            have e3 := V.at (hL 3 (by decide)) rfl
            have e4 := V.at (hL 4 (by decide)) rfl
            have e5 := V.at (hL 5 (by decide)) rfl
            have e6 := V.at (hL 6 (by decide)) rfl
            have e7 := V.at (hL 7 (by decide)) rfl
            have e8 := V.at (hL 8 (by decide)) rfl
            clear hL V
            replace B0 := B0.zw hY
            replace B1 := B1.zw hY
            replace hb := hb.trans (hY.mono hb.size)
            clear hY
            simp only [Exit.then, e0, e1, e2, e3, e4, e5, e6, e7, e8]
            clear e0 e1 e2 e3 e4 e5 e6 e7 e8
            go_wp2_with fail
            go_ret
            exact ⟨by rw [HV.out]; rfl, hb⟩
      · have hjI : ¬ (j : Int) < (NL : Int) := by omega
        have HV := Lib.hid (HR0.out HV0.out (fun i F hF => hall.out i F (by have := (List.getElem?_eq_some_iff.1 hF).1; have := HNL.out; omega) hF))
        go_wp2_with fail
        go_ret
        exact ⟨by rw [HV.out]; rfl, hb⟩
end Go.Proofs.Ytoncepgcfifgbaa
end
section
namespace Go.Proofs.Ytoncepgcfifgbaa
open Go Go.RowKit
set_option linter.unusedVariables false
set_option linter.unusedSimpArgs false
attribute [local irreducible] deg invN quoP resP prd bzD bzU bzW sqP ngP mkP okA monB dvN rdR cpF
theorem ng_small {p : Nat} {A B : Nat → Nat} (hp : 0 < p) (lB : ∀ k, k < 64 → B k < p) (h : deg B < deg A) : ∀ k, k < 64 → resP p (ngP p B) A k = ngP p B k := by
 have hd : deg (ngP p B) ≤ deg B := by
  obtain ⟨b1, b2⟩ := zdb B
  refine deg_le b1 (fun k hk hk2 => ?_)
  unfold ngP
  exact subP_zero rfl (zero_above hk hk2)
 exact resP_small hp (fun k _ => ngP_lt hp k) (by omega)
end Go.Proofs.Ytoncepgcfifgbaa
end
section
namespace Go.Proofs.Ytoncepgcfifgbaa
open Go Go.RowKit Go.ChangeMaps
open Go.Maps (Keyed)
set_option linter.unusedVariables false
set_option linter.unusedSimpArgs false
theorem keyLits_bytes {P : Program} {k u : TypeId} (hk : P.underlying k = some (.array 64 u)) (hu : P.underlying u = some (.int .u8)) (hc : P.cellsOf k = 64) (hc1 : P.cellsOf u = 1) (d : Nat)
 {f : Nat → Nat} (hf : ∀ i, i < 64 → f i < 256) : ∃ l, P.keyLits (d + 2) k (bl 64 f) = some l := by
 obtain ⟨ys, hys⟩ := mapM_ex (fun i => P.keyLits (d + 1) u (((bl 64 f).drop (i * P.cellsOf u)).take (P.cellsOf u))) (List.range 64) (by
  intro i hi
  have hi' : i < 64 := by simpa using hi
  refine ⟨[.int .u8 (f i : Int)], ?_⟩
  have e : ((bl 64 f).drop (i * P.cellsOf u)).take (P.cellsOf u) = [.int .u8 (f i : Int)] := by
   rw [hc1, Nat.mul_one]
   have hl : i < (bl 64 f).length := by rw [zl]; exact hi'
   rw [List.drop_eq_getElem_cons hl]
   simp [bl]
  rw [e]
  have hw : (Lit.int .u8 (f i : Int)).wf = true := by
   have := hf i hi'
   simp only [Lit.wf, Bool.and_eq_true, decide_eq_true_eq]
   have e1 : IntKind.u8.min = 0 := by decide
   have e2 : IntKind.u8.max = 255 := by decide
   rw [e1, e2]
   omega
  simp [Program.keyLits, hu, hw])
 refine ⟨ys.flatten, ?_⟩
 unfold Program.keyLits
 rw [hk]
 dsimp only
 rw [if_pos (by rw [zl, hc]), hys]
 rfl
theorem keyOf_fr {P : Program} {k e u : TypeId} {f0 f1 : Field} (hk : P.underlying k = some (.struct #[f0, f1])) (k0 : f0.type = e ∧ f0.offset = 0) (k1 : f1.type = e ∧ f1.offset = 64) (hnm : #[f0, f1].all (·.name != "_") = true)
 (he : P.underlying e = some (.array 64 u)) (hu : P.underlying u = some (.int .u8)) (hc : P.cellsOf k = 128) (hce : P.cellsOf e = 64) (hc1 : P.cellsOf u = 1) (hkt : P.keyType k = true) (hsz : 2 ≤ P.types.size)
 {A B : Nat → Nat} (hA : ∀ i, i < 64 → A i < 256) (hB : ∀ i, i < 64 → B i < 256) : ∃ l, keyOf P k (.agg (frC A B).toArray) = some l := by
 obtain ⟨d, hd⟩ : ∃ d, P.types.size = d + 2 := ⟨P.types.size - 2, by omega⟩
 have hform : (Value.agg (frC A B).toArray).formed P k = true := by simp [Value.formed, hk, hc, frC_len]
 obtain ⟨ya, hya⟩ := keyLits_bytes he hu hce hc1 d hA
 obtain ⟨yb, hyb⟩ := keyLits_bytes he hu hce hc1 d hB
 have ea : ((frC A B).drop 0).take 64 = bl 64 A := by
  unfold frC; rw [List.drop_zero, List.take_left' (zl _ _)]
 have eb : ((frC A B).drop 64).take 64 = bl 64 B := by
  unfold frC; rw [List.drop_left' (zl _ _), List.take_of_length_le (by rw [zl]; exact Nat.le_refl _)]
 have hl2 : P.keyLits (P.types.size + 1) k (frC A B) = some ([ya, yb].flatten) := by
  rw [hd]
  unfold Program.keyLits
  rw [hk]
  dsimp only
  rw [if_pos ⟨by rw [frC_len, hc], hnm⟩]
  show (([f0, f1].mapM fun f => P.keyLits (d + 2) f.type (((frC A B).drop f.offset).take (P.cellsOf f.type))).map List.flatten) = _
  simp only [List.mapM_cons, List.mapM_nil, k0.1, k0.2, k1.1, k1.2, hce, ea, eb, hya, hyb]
  rfl
 refine ⟨.string (keyBytes ([ya, yb].flatten)), ?_⟩
 unfold keyOf
 rw [hk]
 simp only [hkt, hform, Bool.and_self, if_true]
 show (P.keyLits (P.types.size + 1) k (frC A B)).map _ = _
 rw [hl2]
 rfl
theorem Try.keyForm : Keyed Try.prog 55 := Keyed.of_law (deep_law_laid Try.laidOutP (m := 3) (by omega) (of_decide_eq_true (by kernel_rfl)) (by kernel_rfl) (by rw [Try.underlying55]))
theorem Try.keyOfForm {A B : Nat → Nat} (hA : ∀ i, i < 64 → A i < 256) (hB : ∀ i, i < 64 → B i < 256) : ∃ l, keyOf Try.prog 55 (.agg (frC A B).toArray) = some l :=
 keyOf_fr Try.underlying55 ⟨rfl, rfl⟩ ⟨rfl, rfl⟩ (by first | decide | kernel_rfl | simp) Try.underlying23 Try.underlying5 (by kernel_rfl) (by kernel_rfl) (by kernel_rfl) (by kernel_rfl) (of_decide_eq_true (by kernel_rfl)) hA hB
theorem Try.zeroForm (w : World) : (zeroValue 55).run Try.prog w = .ok (.agg (frC (fun _ => 0) (fun _ => 0)).toArray) w := by
 rw [frC_zero]; kernel_rfl
theorem frC_inj {A B A' B' : Nat → Nat} (h : (Value.agg (frC A B).toArray) = .agg (frC A' B').toArray) : (∀ k, k < 64 → A k = A' k) ∧ ∀ k, k < 64 → B k = B' k := by
 have h1 : (frC A B).toArray = (frC A' B').toArray := by injection h
 have h2 : frC A B = frC A' B' := by simpa using h1
 unfold frC at h2
 have h3 := List.append_inj h2 (by rw [zl, zl])
 have key : ∀ f g : Nat → Nat, bl 64 f = bl 64 g → ∀ k, k < 64 → f k = g k := fun f g e => bcells_inj (by unfold zb; rw [e])
 exact ⟨key _ _ h3.1, key _ _ h3.2⟩
theorem Row.grownR {w w' : World} {b j : Nat} {t : TypeId} {cs : Array Value} (h : Row w b t cs) (hg : w.grownBy w' (some j)) (e : b ≠ j) : Row w' b t cs := by
 have hl := h.lt
 unfold Row at *; rw [hg.block b hl (fun x => e (by cases x; rfl))]; exact h
end Go.Proofs.Ytoncepgcfifgbaa
end
section
namespace Go.Proofs.Ytoncepgcfifgbaa
open Rg
set_option linter.unusedVariables false
set_option linter.unusedSimpArgs false
attribute [local irreducible] deg invN quoP resP prd bzD bzU bzW
theorem rs_cut {p : Nat} {m : Nat → Int} (f : Nat → Nat) : (rs (cut f) : Res p m) = rs f := by unfold rs; exact cl_congr (lz_cut f)
theorem deg_cut64 (f : Nat → Nat) : deg (cut f) = deg f := deg_congr (fun k hk => cut_in f hk)
theorem cut_idem (f : Nat → Nat) : cut (cut f) = cut f := cut_cut f
theorem sqP_cut {p : Nat} {D B : Nat → Nat} (hp : 0 < p) (h : deg B + deg B ≤ 63) : lz (sqP p D (cut B)) = lz (sqP p D B) := by
 have e : ∀ k, k < 64 → prd p (cut B) (cut B) k = prd p B B k := pr_same (by rw [rs_prd hp (by rw [deg_cut64]; exact h), rs_prd hp h, rs_cut]) (fun k _ => prd_lt hp k) (fun k _ => prd_lt hp k)
 exact lz_congr (fun k hk => by unfold sqP subP; rw [e k hk])
theorem fmI_cut {p : Nat} {D A B : Nat → Nat} (hp : 0 < p) (h : fmI p D A B) : fmI p D (cut A) (cut B) := by
 obtain ⟨h1, h2, ⟨n, h3, h4⟩, h5, h6⟩ := h
 obtain ⟨n1, _, _⟩ := deg_top h3.1
 refine ⟨fun k hk => by rw [cut_in A hk]; exact h1 k hk, fun k hk => by rw [cut_in B hk]; exact h2 k hk, ⟨n, ⟨by rw [deg_cut64]; exact h3.1, by rw [cut_in A n1]; exact h3.2⟩, h4⟩, by rw [deg_cut64, deg_cut64]; exact h5, ?_⟩
 rw [lz_cut, sqP_cut hp (by rw [h3.1] at h5; omega)]; exact h6
theorem fmR_cut {p g : Nat} {D A B : Nat → Nat} (hp : 0 < p) (h : fmR p D A B g) : fmR p D (cut A) (cut B) g := ⟨fmI_cut hp h.1, by rw [deg_cut64]; exact h.2⟩
theorem deg_zero0 : deg (fun _ => 0) = -1 := by
 have := zdb (fun _ => 0)
 have h : deg (fun _ => 0) < 0 := deg_neg_iff.2 (fun _ _ => rfl)
 omega
theorem unit_form {p g : Nat} {D : Nat → Nat} (hp : 2 ≤ p) : fmR p D oneP (fun _ => 0) g := by
 refine ⟨⟨fun k _ => by unfold oneP; split <;> omega, fun k _ => by show (0 : Nat) < p; omega, ⟨0, ⟨deg_one, rfl⟩, by omega⟩, by rw [deg_one, deg_zero0]; omega, dv_pr.2 ⟨rs (sqP p D fun _ => 0), ?_⟩⟩, by rw [deg_one]; omega⟩
 have e : (rs oneP : Res p zS) = e := by unfold rs; exact cl_congr one_lz
 rw [e, mule]
theorem ng_deg {p : Nat} {B : Nat → Nat} : deg (ngP p B) ≤ deg B := by
 obtain ⟨b1, b2⟩ := zdb B
 refine deg_le b1 (fun k hk hk2 => ?_)
 unfold ngP
 exact subP_zero rfl (zero_above hk hk2)
theorem ng_form {p g : Nat} {D A B : Nat → Nat} (hp : p = 2 ∨ p = 3 ∨ p = 5 ∨ p = 7) (h : fmR p D A B g) : fmR p D A (ngP p B) g := by
 have hp0 : 0 < p := by omega
 obtain ⟨⟨h1, h2, ⟨n, h3, h4⟩, h5, h6⟩, h7⟩ := h
 have hd := ng_deg (p := p) (B := B)
 have hn := h3.1
 refine ⟨⟨h1, fun k _ => by unfold ngP; exact subP_lt hp0 k, ⟨n, h3, h4⟩, by omega, ?_⟩, h7⟩
 exact sq_same hp o (by rw [omul, acomm]; exact rs_ng h2) (by omega) (by omega) h6
/-- nothing stands behind the cells -/
def cfx (F : (Nat → Nat) × (Nat → Nat)) : Prop := cut F.1 = F.1 ∧ cut F.2 = F.2
theorem cfx_eq {F G : (Nat → Nat) × (Nat → Nat)} (hF : cfx F) (hG : cfx G) (h1 : ∀ k, k < 64 → F.1 k = G.1 k) (h2 : ∀ k, k < 64 → F.2 k = G.2 k) : F = G := by
 have key : ∀ f g : Nat → Nat, cut f = f → cut g = g → (∀ k, k < 64 → f k = g k) → f = g := fun f g hf hg h => by
  rw [← hf, ← hg]; exact cut_eq h
 exact Prod.ext (key _ _ hF.1 hG.1 h1) (key _ _ hF.2 hG.2 h2)
theorem cfx_cut (A B : Nat → Nat) : cfx (cut A, cut B) := ⟨cut_idem A, cut_idem B⟩
theorem cfx_one : cfx (oneP, fun _ => 0) := by
 refine ⟨?_, ?_⟩
 · show cut oneP = oneP
   funext k; unfold cut oneP
   by_cases h : k < 64
   · rw [if_pos h]
   · rw [if_neg h, if_neg (by omega)]
 · show cut (fun _ => 0) = fun _ => 0
   funext k; unfold cut; split <;> rfl
/-- the composition, cells alone -/
def muF (p : Nat) (D : Nat → Nat) (g : Nat) (F G : (Nat → Nat) × (Nat → Nat)) : (Nat → Nat) × (Nat → Nat) := (cut (cpF p D g F.1 F.2 G.1 G.2).1, cut (cpF p D g F.1 F.2 G.1 G.2).2)
/-- a reduced form, cells alone -/
def fmC (p : Nat) (D : Nat → Nat) (g : Nat) (F : (Nat → Nat) × (Nat → Nat)) : Prop := cfx F ∧ fmR p D F.1 F.2 g
theorem muF_ok {p g : Nat} {D : Nat → Nat} (hp : p = 2 ∨ p = 3 ∨ p = 5 ∨ p = 7) (lD : ∀ k, k < 64 → D k < p) (hD : deg D = ((2 * g + 1 : Nat) : Int)) (hg : g ≤ 2) {F G : (Nat → Nat) × (Nat → Nat)} (hF : fmC p D g F) (hG : fmC p D g G) : fmC p D g (muF p D g F G) :=
 ⟨cfx_cut _ _, fmR_cut (by omega) (cpF_ok hp lD hD hg hF.2 hG.2)⟩
/-- powers by squares -/
def pgF (mul : (Nat → Nat) × (Nat → Nat) → (Nat → Nat) × (Nat → Nat) → (Nat → Nat) × (Nat → Nat)) : Nat → Nat → (Nat → Nat) × (Nat → Nat) → (Nat → Nat) × (Nat → Nat) → (Nat → Nat) × (Nat → Nat)
 | 0, _, o, _ => o
 | f + 1, k, o, s => if k = 0 then o else pgF mul f (k / 2) (if k % 2 = 1 then mul o s else o) (mul s s)
theorem pgF_z {mul : (Nat → Nat) × (Nat → Nat) → (Nat → Nat) × (Nat → Nat) → (Nat → Nat) × (Nat → Nat)} {f : Nat} {o s : (Nat → Nat) × (Nat → Nat)} : pgF mul f 0 o s = o := by
 cases f with
 | zero => rfl
 | succ f => rw [pgF, if_pos rfl]
theorem pgF_odd {mul : (Nat → Nat) × (Nat → Nat) → (Nat → Nat) × (Nat → Nat) → (Nat → Nat) × (Nat → Nat)} {f k : Nat} {o s : (Nat → Nat) × (Nat → Nat)} (h0 : k ≠ 0) (h : k % 2 = 1) : pgF mul (f + 1) k o s = pgF mul f (k / 2) (mul o s) (mul s s) := by rw [pgF, if_neg h0, if_pos h]
theorem pgF_even {mul : (Nat → Nat) × (Nat → Nat) → (Nat → Nat) × (Nat → Nat) → (Nat → Nat) × (Nat → Nat)} {f k : Nat} {o s : (Nat → Nat) × (Nat → Nat)} (h0 : k ≠ 0) (h : ¬ k % 2 = 1) : pgF mul (f + 1) k o s = pgF mul f (k / 2) o (mul s s) := by rw [pgF, if_neg h0, if_neg h]
end Go.Proofs.Ytoncepgcfifgbaa
end
section
namespace Go.Proofs.Ytoncepgcfifgbaa
open Go Go.RowKit
set_option linter.unusedVariables false
set_option linter.unusedSimpArgs false
attribute [local irreducible] deg invN quoP resP prd bzD bzU bzW sqP ngP mkP okA monB dvN rdR cpF pgF muF cut
/-- the map of squares -/
def mqF (mul : ((Nat → Nat) × (Nat → Nat)) → ((Nat → Nat) × (Nat → Nat)) → ((Nat → Nat) × (Nat → Nat))) (L : List (Value × Value)) : Prop := ∀ q ∈ L, ∃ x, cfx x ∧ q.1 = .agg (frC x.1 x.2).toArray ∧ q.2 = .agg (frC (mul x x).1 (mul x x).2).toArray
set_option maxRecDepth 100000 in
set_option maxHeartbeats 3200000 in
theorem powerForm (mul : ((Nat → Nat) × (Nat → Nat)) → ((Nat → Nat) × (Nat → Nat)) → ((Nat → Nat) × (Nat → Nat))) (P : Nat → ((Nat → Nat) × (Nat → Nat)) → ((Nat → Nat) × (Nat → Nat)) → Prop) (c1 : Value) (f : ((Nat → Nat) × (Nat → Nat))) (k0 : Nat) (w : World)
 (HT1 : Hid (∀ k r s W, P k r s → k % 2 = 1 → Calls Try.prog 135 #[c1, .agg (frC r.1 r.2).toArray, .agg (frC s.1 s.2).toArray] W fun e w' => e = .returned (.agg (frC (mul r s).1 (mul r s).2).toArray) ∧ Below W.heap.size W w'))
 (HT2 : Hid (∀ k r s W, P k r s → 1 < k → Calls Try.prog 135 #[c1, .agg (frC s.1 s.2).toArray, .agg (frC s.1 s.2).toArray] W fun e w' => e = .returned (.agg (frC (mul s s).1 (mul s s).2).toArray) ∧ Below W.heap.size W w'))
 (HS : Hid (∀ k r s, P k r s → 1 < k → P (k / 2) (if k % 2 = 1 then mul r s else r) (mul s s)))
 (HB : Hid (∀ k r s, P k r s → (∀ i, i < 64 → s.1 i < 256) ∧ (∀ i, i < 64 → s.2 i < 256) ∧ cfx s)) (H0 : 0 < k0 → P k0 (oneP, fun _ => 0) f) (hk0 : (k0 : Int) ≤ 1000000000000) :
 Calls Try.prog 139 #[.agg (frC oneP (fun _ => 0)).toArray, .agg (frC f.1 f.2).toArray, .int .i64 (k0 : Int), .func (.func 135) #[c1] #[]] w fun e w' => e = .returned (.agg (frC (pgF mul 64 k0 (oneP, fun _ => 0) f).1 (pgF mul 64 k0 (oneP, fun _ => 0) f).2).toArray) ∧ Below w.heap.size w w' := by
 have hmm := @run_makeMap Try.prog
 go_enter Try.func139, Try.ntmps139
 go_upto_region 1 with (fail)
 rw [← frC_zero]
 obtain ⟨W1, hwo⟩ : ∃ v : World, v = (((w.alloc (.cells (frC oneP (fun _ => 0)).toArray 55)).alloc (.cells (frC f.1 f.2).toArray 55)).alloc (.cells (frC (fun _ => 0) (fun _ => 0)).toArray 55)) := ⟨_, rfl⟩
 have B0 : Row W1 (w.heap.size) 55 (frC oneP (fun _ => 0)).toArray := by subst hwo; have := (((Row.new w 55 (frC oneP (fun _ => 0)).toArray).alloc (.cells (frC f.1 f.2).toArray 55)).alloc (.cells (frC (fun _ => 0) (fun _ => 0)).toArray 55)); simpa using this
 have B1 : Row W1 (w.heap.size + 1) 55 (frC f.1 f.2).toArray := by subst hwo; have := ((Row.new (w.alloc (.cells (frC oneP (fun _ => 0)).toArray 55)) 55 (frC f.1 f.2).toArray).alloc (.cells (frC (fun _ => 0) (fun _ => 0)).toArray 55)); simpa using this
 have B2 : Row W1 (w.heap.size + 1 + 1) 55 (frC (fun _ => 0) (fun _ => 0)).toArray := by subst hwo; have := (Row.new ((w.alloc (.cells (frC oneP (fun _ => 0)).toArray 55)).alloc (.cells (frC f.1 f.2).toArray 55)) 55 (frC (fun _ => 0) (fun _ => 0)).toArray); simpa using this
 have hb : Below w.heap.size w W1 := by subst hwo; exact ((((Below.refl _ _).alloc (Nat.le_refl _) _).alloc (by simp) _).alloc (by simp; omega) _)
 rw [← hwo]
 clear hwo
 go_upto_region 2 with (fail)
 have lt_B0 := B0.lt
 have lt_B1 := B1.lt
 have lt_B2 := B2.lt
 have lhb := hb.size
 obtain ⟨W2, hwo, hzQ⟩ : ∃ v : World, v = (W1.alloc (.map #[] 0)) ∧ Row v (w.heap.size) 55 (frC oneP (fun _ => 0)).toArray ∧ Row v (w.heap.size + 1) 55 (frC f.1 f.2).toArray ∧ Row v (w.heap.size + 1 + 1) 55 (frC (fun _ => 0) (fun _ => 0)).toArray ∧ MapG Try.prog 55 v (W1.heap.size) [] ∧ Below w.heap.size w v := ⟨_, rfl, (B0.alloc (.map #[] 0)), (B1.alloc (.map #[] 0)), (B2.alloc (.map #[] 0)), (MapG.new Try.prog 55 W1), (hb.alloc hb.size (.map #[] 0))⟩
 rw [← hwo]
 clear hwo B0 B1 B2 hb
 obtain ⟨B0, B1, B2, B3, hb⟩ := hzQ
 obtain ⟨N1, hNN⟩ : ∃ n : Nat, n = W1.heap.size := ⟨_, rfl⟩
 rw [← hNN] at lt_B0 lt_B1 lt_B2 lhb B3 ⊢
 clear hNN
 have zN1_0 := lt_B0
 have zN1_1 := lt_B1
 have zN1_2 := lt_B2
 have zN1 := lhb
 clear lt_B0 lt_B1 lt_B2 lhb
 try simp only [Act.put, pA, pB, pC]
 have lt_B0 := B0.lt
 have lt_B1 := B1.lt
 have lt_B2 := B2.lt
 have lt_B3 := B3.lt
 go_wp2_with (first | rw [← z64] | rw [← frC_zero] | (refine zlr rfl 55 (.tmp 4) rfl _ rfl 55 (frC oneP (fun _ => 0)).toArray (B0) _ Try.underlying55 rfl 128 Try.size55 (by simp [frC_len]) ?_) | (refine wpList_store_rowv rfl 55 (.tmp 10) (.tmp 14) rfl _ rfl (frC oneP (fun _ => 0)).toArray rfl 55 _ ((Row.new W2 55 (frC (fun _ => 0) (fun _ => 0)).toArray)) 128 Try.size55 (by simp [frC_len]) (by simp [frC_len]) (frC_all _ _) ?_; try simp only [Act.put]))
 have lt_B0 := B0.lt
 have lt_B1 := B1.lt
 have lt_B2 := B2.lt
 have lt_B3 := B3.lt
 have lhb := hb.size
 obtain ⟨W3, hwo, hzQ⟩ : ∃ v : World, v = ((W2.alloc (.cells (frC (fun _ => 0) (fun _ => 0)).toArray 55)).setRow (W2.heap.size) (frC oneP (fun _ => 0)).toArray) ∧ Row v (w.heap.size) 55 (frC oneP (fun _ => 0)).toArray ∧ Row v (w.heap.size + 1) 55 (frC f.1 f.2).toArray ∧ Row v (w.heap.size + 1 + 1) 55 (frC (fun _ => 0) (fun _ => 0)).toArray ∧ MapG Try.prog 55 v (N1) [] ∧ Row v (W2.heap.size) 55 (frC oneP (fun _ => 0)).toArray ∧ Below w.heap.size w v := ⟨_, rfl, ((B0.alloc (.cells (frC (fun _ => 0) (fun _ => 0)).toArray 55)).rowOther (by omega)), ((B1.alloc (.cells (frC (fun _ => 0) (fun _ => 0)).toArray 55)).rowOther (by omega)), ((B2.alloc (.cells (frC (fun _ => 0) (fun _ => 0)).toArray 55)).rowOther (by omega)), ((B3.alloc (.cells (frC (fun _ => 0) (fun _ => 0)).toArray 55)).rowOther (by omega)), ((Row.new W2 55 (frC (fun _ => 0) (fun _ => 0)).toArray).row (frC oneP (fun _ => 0)).toArray), (zr (hb.alloc (by have := hb.size; simp; omega) (.cells (frC (fun _ => 0) (fun _ => 0)).toArray 55)) (by omega) _)⟩
 rw [← hwo]
 clear hwo B0 B1 B2 B3 hb
 obtain ⟨B0, B1, B2, B3, B4, hb⟩ := hzQ
 obtain ⟨N2, hNN⟩ : ∃ n : Nat, n = W2.heap.size := ⟨_, rfl⟩
 rw [← hNN] at lt_B0 lt_B1 lt_B2 lt_B3 lhb B4 ⊢
 clear hNN
 have zN2_0 := lt_B0
 have zN2_1 := lt_B1
 have zN2_2 := lt_B2
 have zN2_3 := lt_B3
 have zN2 := lhb
 clear lt_B0 lt_B1 lt_B2 lt_B3 lhb
 try simp only [Act.put, pA, pB, pC]
 clear B0
 go_loopw [2] (fun i wr => ∃ (q k : Nat) (pa pb sa sb : Nat → Nat) (L : List (Value × Value)), Hid (pgF mul 64 k0 (oneP, fun _ => 0) f = pgF mul q k (pa, pb) (sa, sb)) ∧ k < 2 ^ q ∧ (k : Int) ≤ 1000000000000 ∧ Hid (0 < k → P k (pa, pb) (sa, sb)) ∧ Hid (mqF mul L) ∧ i = .int .i64 (k : Int) ∧ Below w.heap.size w wr ∧ Row wr (w.heap.size + 1) 55 (frC sa sb).toArray ∧ Row wr (w.heap.size + 1 + 1) 55 (frC (fun _ => 0) (fun _ => 0)).toArray ∧ MapG Try.prog 55 wr (N1) L ∧ Row wr (N2) 55 (frC pa pb).toArray) (fun i _ => (intOf i).toNat)
 case atStart => exact ⟨64, k0, oneP, fun _ => 0, f.1, f.2, [], Lib.hid rfl, (by have h6 : (1000000000000 : Nat) < 2 ^ 64 := (by decide); omega), hk0, Lib.hid H0, Lib.hid (by intro q hq; cases hq), rfl, hb, B1, B2, B3, B4⟩
 case round =>
  clear hb B1 B2 B3 B4 H0
  obtain ⟨q, k, pa, pb, sa, sb, L, hP, hkq, hk, hI, hL, rfl, hb, B1, B2, B3, B4⟩ := hrel
  obtain ⟨po, rfl, rfl⟩ : ∃ po : ((Nat → Nat) × (Nat → Nat)), po.1 = pa ∧ po.2 = pb := ⟨(pa, pb), rfl, rfl⟩
  obtain ⟨ps, rfl, rfl⟩ : ∃ ps : ((Nat → Nat) × (Nat → Nat)), ps.1 = sa ∧ ps.2 = sb := ⟨(sa, sb), rfl, rfl⟩
  replace hP : Hid (pgF mul 64 k0 (oneP, fun _ => 0) f = pgF mul q k po ps) := hP
  replace hI : Hid (0 < k → P k po ps) := hI
  have HKQ := Lib.hid hkq
  clear hkq hk0 hmm
  by_cases hz : k = 0
  · subst hz
    have HV := Lib.hid (hP.out.trans pgF_z)
    go_upto_region 13 with (fail)
    have lt_B1 := B1.lt
    have lt_B2 := B2.lt
    have lt_B3 := B3.lt
    have lt_B4 := B4.lt
    go_wp2_with (first | rw [← z64] | (refine zlr rfl 55 (.tmp 10) rfl _ rfl 55 (frC po.1 po.2).toArray (B4) _ Try.underlying55 rfl 128 Try.size55 (by simp [frC_len]) ?_) | (refine wpList_store_rowv rfl 55 (.tmp 8) (.tmp 44) rfl _ rfl (frC po.1 po.2).toArray rfl 55 _ (B2) 128 Try.size55 (by simp [frC_len]) (by simp [frC_len]) (frC_all _ _) ?_; try simp only [Act.put]))
    obtain ⟨W4, hwo, hzQ⟩ : ∃ v : World, v = (wr.setRow (w.heap.size + 1 + 1) (frC po.1 po.2).toArray) ∧ Row v (w.heap.size + 1) 55 (frC ps.1 ps.2).toArray ∧ Row v (w.heap.size + 1 + 1) 55 (frC po.1 po.2).toArray ∧ MapG Try.prog 55 v (N1) L ∧ Row v (N2) 55 (frC po.1 po.2).toArray ∧ Below w.heap.size w v := ⟨_, rfl, (B1.rowOther (by omega)), (B2.row (frC po.1 po.2).toArray), (B3.rowOther (by omega)), (B4.rowOther (by omega)), (zr hb (by omega) _)⟩
    rw [← hwo]
    clear hwo B1 B2 B3 B4 hb
    obtain ⟨B1, B2, B3, B4, hb⟩ := hzQ
    try simp only [Act.put, pA, pB, pC]
    refine bodyPost_ret (results_row rfl _ _ _ _ _ rfl B2 _ Try.underlying55 rfl (by rw [Try.size55]; simp [frC_len])) rfl ⟨by rw [HV.out], hb⟩
  · obtain ⟨q, rfl⟩ : ∃ t, q = t + 1 := ⟨q - 1, by have h1 := HKQ.out; have h2 : q ≠ 0 := (by intro h; rw [h, Nat.pow_zero] at h1; omega); omega⟩
    have hpos : (0 : Int) < (k : Int) := by omega
    have HP := Lib.hid (hI.out (by omega))
    clear hI
    by_cases hodd : k % 2 = 1
    · have hb1 : (((k : Int) % 2) == 1) = true := beq_iff_eq.2 (by omega)
      have hb2 : (((k : Int).tmod 2) == 1) = true := by rw [Int.tmod_eq_emod_of_nonneg (by omega)]; exact hb1
      have HO := Lib.hid hodd
      have HV := Lib.hid (hP.out.trans (pgF_odd hz hodd))
      have HD := Lib.hid (show k / 2 < 2 ^ q by have := HKQ.out; rw [Nat.pow_succ] at this; omega)
      clear hodd hz hP
      go_upto_region 5 with (fail)
      clear hb1 hb2
      have lt_B1 := B1.lt
      have lt_B2 := B2.lt
      have lt_B3 := B3.lt
      have lt_B4 := B4.lt
      go_upto_region 6 with (first | rw [← z64] | (refine zlr rfl 55 (.tmp 10) rfl _ rfl 55 (frC po.1 po.2).toArray (B4) _ Try.underlying55 rfl 128 Try.size55 (by simp [frC_len]) ?_) | (refine zlr rfl 55 (.tmp 5) rfl _ rfl 55 (frC ps.1 ps.2).toArray (B1) _ Try.underlying55 rfl 128 Try.size55 (by simp [frC_len]) ?_) | (go_at_call 135; refine (HT1.out k po ps _ HP.out HO.out).mono ?_; rintro e W4 ⟨rfl, hW4⟩; replace B1 := B1.zw hW4; replace B2 := B2.zw hW4; replace B3 := B3.zw hW4; replace B4 := B4.zw hW4; replace hb := (hb).trans (hW4.mono (hb).size)) | (refine wpList_store_rowv rfl 55 (.tmp 10) (.tmp 23) rfl _ rfl (frC (mul po ps).1 (mul po ps).2).toArray rfl 55 _ (B4) 128 Try.size55 (by simp [frC_len]) (by simp [frC_len]) (frC_all _ _) ?_; try simp only [Act.put]))
      obtain ⟨W5, hwo, hzQ⟩ : ∃ v : World, v = (W4.setRow (N2) (frC (mul po ps).1 (mul po ps).2).toArray) ∧ Row v (w.heap.size + 1) 55 (frC ps.1 ps.2).toArray ∧ Row v (w.heap.size + 1 + 1) 55 (frC (fun _ => 0) (fun _ => 0)).toArray ∧ MapG Try.prog 55 v (N1) L ∧ Row v (N2) 55 (frC (mul po ps).1 (mul po ps).2).toArray ∧ Below w.heap.size w v := ⟨_, rfl, (B1.rowOther (by omega)), (B2.rowOther (by omega)), (B3.rowOther (by omega)), (B4.row (frC (mul po ps).1 (mul po ps).2).toArray), (zr hb (by omega) _)⟩
      rw [← hwo]
      clear hwo B1 B2 B3 B4 hb
      obtain ⟨B1, B2, B3, B4, hb⟩ := hzQ
      try simp only [Act.put, pA, pB, pC]
      by_cases h1 : 1 < k
      · have hq : 1 ≤ (k : Int) / 2 := by omega
        have hq2 : 0 < (k : Int) / 2 := by omega
        have HS2 := Lib.hid (HS.out k po ps HP.out h1)
        have HT := Lib.hid (fun W => HT2.out k po ps W HP.out h1)
        obtain ⟨hy1, hy2, hy3⟩ := HB.out k po ps HP.out
        obtain ⟨kl, hkl⟩ := Try.keyOfForm hy1 hy2
        have HKL := Lib.hid hkl
        have HCF := Lib.hid hy3
        have hlk := B3.look Try.keyForm Try.underlying142 (Try.zeroForm _) true hkl
        clear hkl h1 hy1 hy2 hy3
        go_upto_region 8 with (fail)
        clear hq2
        rcases hlk with ⟨hrun, hno⟩ | ⟨v, hin, hrun⟩
        · simp only [if_true] at hrun
          have lt_B1 := B1.lt
          have lt_B2 := B2.lt
          have lt_B3 := B3.lt
          have lt_B4 := B4.lt
          go_upto_region 10 with (first | rw [← z64] | rw [← frC_zero] | (refine zlr rfl 55 (.tmp 5) rfl _ rfl 55 (frC ps.1 ps.2).toArray (B1) _ Try.underlying55 rfl 128 Try.size55 (by simp [frC_len]) ?_) | (at_lookup; refine wpList_look _ rfl _ _ 142 true rfl _ rfl _ rfl (.tuple #[.agg (frC (fun _ => 0) (fun _ => 0)).toArray, .bool false]) hrun ?_) | (refine wpList_store_rowv rfl 55 (.tmp 11) (.tmp 32) rfl _ rfl (frC (fun _ => 0) (fun _ => 0)).toArray rfl 55 _ ((Row.new W5 55 (frC (fun _ => 0) (fun _ => 0)).toArray)) 128 Try.size55 (by simp [frC_len]) (by simp [frC_len]) (frC_all _ _) ?_; try simp only [Act.put]; go_upto_region 10 with (fail)))
          have lt_B1 := B1.lt
          have lt_B2 := B2.lt
          have lt_B3 := B3.lt
          have lt_B4 := B4.lt
          have lhb := hb.size
          obtain ⟨W6, hwo, hzQ⟩ : ∃ v : World, v = ((W5.alloc (.cells (frC (fun _ => 0) (fun _ => 0)).toArray 55)).setRow (W5.heap.size) (frC (fun _ => 0) (fun _ => 0)).toArray) ∧ Row v (w.heap.size + 1) 55 (frC ps.1 ps.2).toArray ∧ Row v (w.heap.size + 1 + 1) 55 (frC (fun _ => 0) (fun _ => 0)).toArray ∧ MapG Try.prog 55 v (N1) L ∧ Row v (N2) 55 (frC (mul po ps).1 (mul po ps).2).toArray ∧ Row v (W5.heap.size) 55 (frC (fun _ => 0) (fun _ => 0)).toArray ∧ Below w.heap.size w v := ⟨_, rfl, ((B1.alloc (.cells (frC (fun _ => 0) (fun _ => 0)).toArray 55)).rowOther (by omega)), ((B2.alloc (.cells (frC (fun _ => 0) (fun _ => 0)).toArray 55)).rowOther (by omega)), ((B3.alloc (.cells (frC (fun _ => 0) (fun _ => 0)).toArray 55)).rowOther (by omega)), ((B4.alloc (.cells (frC (fun _ => 0) (fun _ => 0)).toArray 55)).rowOther (by omega)), ((Row.new W5 55 (frC (fun _ => 0) (fun _ => 0)).toArray).row (frC (fun _ => 0) (fun _ => 0)).toArray), (zr (hb.alloc (by have := hb.size; simp; omega) (.cells (frC (fun _ => 0) (fun _ => 0)).toArray 55)) (by omega) _)⟩
          rw [← hwo]
          clear hwo B1 B2 B3 B4 hb
          obtain ⟨B1, B2, B3, B4, B5, hb⟩ := hzQ
          obtain ⟨N3, hNN⟩ : ∃ n : Nat, n = W5.heap.size := ⟨_, rfl⟩
          rw [← hNN] at lt_B1 lt_B2 lt_B3 lt_B4 lhb B5 ⊢
          clear hNN
          have zN3_1 := lt_B1
          have zN3_2 := lt_B2
          have zN3_3 := lt_B3
          have zN3_4 := lt_B4
          have zN3 := lhb
          clear lt_B1 lt_B2 lt_B3 lt_B4 lhb
          try simp only [Act.put, pA, pB, pC]
          clear hrun
          have lt_B1 := B1.lt
          have lt_B2 := B2.lt
          have lt_B3 := B3.lt
          have lt_B4 := B4.lt
          have lt_B5 := B5.lt
          go_upto_region 11 with (first | rw [← z64] | (refine zlr rfl 55 (.tmp 5) rfl _ rfl 55 (frC ps.1 ps.2).toArray (B1) _ Try.underlying55 rfl 128 Try.size55 (by simp [frC_len]) ?_) | (refine zlr rfl 55 (.tmp 5) rfl _ rfl 55 (frC ps.1 ps.2).toArray (B1) _ Try.underlying55 rfl 128 Try.size55 (by simp [frC_len]) ?_) | (go_at_call 135; refine (HT.out _).mono ?_; rintro e W7 ⟨rfl, hW7⟩; replace B1 := B1.zw hW7; replace B2 := B2.zw hW7; replace B3 := B3.zw hW7; replace B4 := B4.zw hW7; replace B5 := B5.zw hW7; replace hb := (hb).trans (hW7.mono (hb).size)) | (refine wpList_store_rowv rfl 55 (.tmp 11) (.tmp 39) rfl _ rfl (frC (mul ps ps).1 (mul ps ps).2).toArray rfl 55 _ (B5) 128 Try.size55 (by simp [frC_len]) (by simp [frC_len]) (frC_all _ _) ?_; try simp only [Act.put]))
          obtain ⟨W8, hwo, hzQ⟩ : ∃ v : World, v = (W7.setRow (N3) (frC (mul ps ps).1 (mul ps ps).2).toArray) ∧ Row v (w.heap.size + 1) 55 (frC ps.1 ps.2).toArray ∧ Row v (w.heap.size + 1 + 1) 55 (frC (fun _ => 0) (fun _ => 0)).toArray ∧ MapG Try.prog 55 v (N1) L ∧ Row v (N2) 55 (frC (mul po ps).1 (mul po ps).2).toArray ∧ Row v (N3) 55 (frC (mul ps ps).1 (mul ps ps).2).toArray ∧ Below w.heap.size w v := ⟨_, rfl, (B1.rowOther (by omega)), (B2.rowOther (by omega)), (B3.rowOther (by omega)), (B4.rowOther (by omega)), (B5.row (frC (mul ps ps).1 (mul ps ps).2).toArray), (zr hb (by omega) _)⟩
          rw [← hwo]
          clear hwo B1 B2 B3 B4 B5 hb
          obtain ⟨B1, B2, B3, B4, B5, hb⟩ := hzQ
          try simp only [Act.put, pA, pB, pC]
          obtain ⟨wM, hput, hmn, hgr⟩ := B3.put (val := .agg (frC (mul ps ps).1 (mul ps ps).2).toArray) Try.keyForm Try.underlying142 HKL.out hno
          have gB1 : Row wM (w.heap.size + 1) 55 (frC ps.1 ps.2).toArray := B1.grownR hgr (by omega)
          have gB2 : Row wM (w.heap.size + 1 + 1) 55 (frC (fun _ => 0) (fun _ => 0)).toArray := B2.grownR hgr (by omega)
          have gB4 : Row wM (N2) 55 (frC (mul po ps).1 (mul po ps).2).toArray := B4.grownR hgr (by omega)
          have gB5 : Row wM (N3) 55 (frC (mul ps ps).1 (mul ps ps).2).toArray := B5.grownR hgr (by omega)
          have ghb : Below w.heap.size w wM := hb.grown hgr hb.size (fun j e => by cases e; omega)
          go_upto_region 12 with (first | (refine zlr rfl 55 (.tmp 5) rfl _ rfl 55 (frC ps.1 ps.2).toArray (B1) _ Try.underlying55 rfl 128 Try.size55 (by simp [frC_len]) ?_) | (refine zlr rfl 55 (.tmp 11) rfl _ rfl 55 (frC (mul ps ps).1 (mul ps ps).2).toArray (B5) _ Try.underlying55 rfl 128 Try.size55 (by simp [frC_len]) ?_) | (at_mapUpdate; refine wpList_put _ rfl _ _ _ 142 rfl _ rfl _ rfl _ rfl wM hput ?_; go_upto_region 12 with (fail)))
          clear B1 B2 B3 B4 B5 hb hput hgr hno
          have B1 := gB1
          clear gB1
          have B2 := gB2
          clear gB2
          have B3 := hmn
          clear hmn
          have B4 := gB4
          clear gB4
          have B5 := gB5
          clear gB5
          have hb := ghb
          clear ghb
          have lt_B1 := B1.lt
          have lt_B2 := B2.lt
          have lt_B3 := B3.lt
          have lt_B4 := B4.lt
          have lt_B5 := B5.lt
          go_wp2_with (first | rw [← z64] | (refine zlr rfl 55 (.tmp 11) rfl _ rfl 55 (frC (mul ps ps).1 (mul ps ps).2).toArray (B5) _ Try.underlying55 rfl 128 Try.size55 (by simp [frC_len]) ?_) | (refine wpList_store_rowv rfl 55 (.tmp 5) (.tmp 43) rfl _ rfl (frC (mul ps ps).1 (mul ps ps).2).toArray rfl 55 _ (B1) 128 Try.size55 (by simp [frC_len]) (by simp [frC_len]) (frC_all _ _) ?_; try simp only [Act.put]))
          obtain ⟨W9, hwo, hzQ⟩ : ∃ v : World, v = (wM.setRow (w.heap.size + 1) (frC (mul ps ps).1 (mul ps ps).2).toArray) ∧ Row v (w.heap.size + 1) 55 (frC (mul ps ps).1 (mul ps ps).2).toArray ∧ Row v (w.heap.size + 1 + 1) 55 (frC (fun _ => 0) (fun _ => 0)).toArray ∧ MapG Try.prog 55 v (N1) (L ++ [(.agg (frC ps.1 ps.2).toArray, .agg (frC (mul ps ps).1 (mul ps ps).2).toArray)]) ∧ Row v (N2) 55 (frC (mul po ps).1 (mul po ps).2).toArray ∧ Row v (N3) 55 (frC (mul ps ps).1 (mul ps ps).2).toArray ∧ Below w.heap.size w v := ⟨_, rfl, (B1.row (frC (mul ps ps).1 (mul ps ps).2).toArray), (B2.rowOther (by omega)), (B3.rowOther (by omega)), (B4.rowOther (by omega)), (B5.rowOther (by omega)), (zr hb (by omega) _)⟩
          rw [← hwo]
          clear hwo B1 B2 B3 B4 B5 hb
          obtain ⟨B1, B2, B3, B4, B5, hb⟩ := hzQ
          try simp only [Act.put, pA, pB, pC]
          go_roundw
          case rel => exact ⟨q, k / 2, (mul po ps).1, (mul po ps).2, (mul ps ps).1, (mul ps ps).2, HV, HD.out, by omega, Lib.hid (fun _ => by have := HS2.out; rw [if_pos HO.out] at this; exact this), L ++ [(.agg (frC ps.1 ps.2).toArray, .agg (frC (mul ps ps).1 (mul ps ps).2).toArray)], Lib.hid (by intro q hq; rcases List.mem_append.1 hq with h | h; exact hL.out q h; rw [List.mem_singleton] at h; subst h; exact ⟨ps, HCF.out, rfl, rfl⟩), by rw [show ((k / 2 : Nat) : Int) = (k : Int) / 2 by push_cast; rfl], hb, B1, B2, B3, B4⟩
          case measure => simp [intOf] <;> omega
        · simp only [if_true] at hrun
          obtain rfl : v = .agg (frC (mul ps ps).1 (mul ps ps).2).toArray := by
           obtain ⟨x, e0, e1, e2⟩ := hL.out _ hin
           obtain ⟨i1, i2⟩ := frC_inj (show (Value.agg (frC ps.1 ps.2).toArray) = .agg (frC x.1 x.2).toArray from e1)
           have e5 : v = .agg (frC (mul x x).1 (mul x x).2).toArray := e2
           rw [e5, cfx_eq e0 HCF.out (fun k hk => (i1 k hk).symm) (fun k hk => (i2 k hk).symm)]
          clear hin
          have lt_B1 := B1.lt
          have lt_B2 := B2.lt
          have lt_B3 := B3.lt
          have lt_B4 := B4.lt
          go_upto_region 12 with (first | rw [← z64] | rw [← frC_zero] | (refine zlr rfl 55 (.tmp 5) rfl _ rfl 55 (frC ps.1 ps.2).toArray (B1) _ Try.underlying55 rfl 128 Try.size55 (by simp [frC_len]) ?_) | (at_lookup; refine wpList_look _ rfl _ _ 142 true rfl _ rfl _ rfl (.tuple #[.agg (frC (mul ps ps).1 (mul ps ps).2).toArray, .bool true]) hrun ?_) | (refine wpList_store_rowv rfl 55 (.tmp 11) (.tmp 32) rfl _ rfl (frC (mul ps ps).1 (mul ps ps).2).toArray rfl 55 _ ((Row.new W5 55 (frC (fun _ => 0) (fun _ => 0)).toArray)) 128 Try.size55 (by simp [frC_len]) (by simp [frC_len]) (frC_all _ _) ?_; try simp only [Act.put]; go_upto_region 12 with (fail)))
          have lt_B1 := B1.lt
          have lt_B2 := B2.lt
          have lt_B3 := B3.lt
          have lt_B4 := B4.lt
          have lhb := hb.size
          obtain ⟨W6, hwo, hzQ⟩ : ∃ v : World, v = ((W5.alloc (.cells (frC (fun _ => 0) (fun _ => 0)).toArray 55)).setRow (W5.heap.size) (frC (mul ps ps).1 (mul ps ps).2).toArray) ∧ Row v (w.heap.size + 1) 55 (frC ps.1 ps.2).toArray ∧ Row v (w.heap.size + 1 + 1) 55 (frC (fun _ => 0) (fun _ => 0)).toArray ∧ MapG Try.prog 55 v (N1) L ∧ Row v (N2) 55 (frC (mul po ps).1 (mul po ps).2).toArray ∧ Row v (W5.heap.size) 55 (frC (mul ps ps).1 (mul ps ps).2).toArray ∧ Below w.heap.size w v := ⟨_, rfl, ((B1.alloc (.cells (frC (fun _ => 0) (fun _ => 0)).toArray 55)).rowOther (by omega)), ((B2.alloc (.cells (frC (fun _ => 0) (fun _ => 0)).toArray 55)).rowOther (by omega)), ((B3.alloc (.cells (frC (fun _ => 0) (fun _ => 0)).toArray 55)).rowOther (by omega)), ((B4.alloc (.cells (frC (fun _ => 0) (fun _ => 0)).toArray 55)).rowOther (by omega)), ((Row.new W5 55 (frC (fun _ => 0) (fun _ => 0)).toArray).row (frC (mul ps ps).1 (mul ps ps).2).toArray), (zr (hb.alloc (by have := hb.size; simp; omega) (.cells (frC (fun _ => 0) (fun _ => 0)).toArray 55)) (by omega) _)⟩
          rw [← hwo]
          clear hwo B1 B2 B3 B4 hb
          obtain ⟨B1, B2, B3, B4, B5, hb⟩ := hzQ
          obtain ⟨N3, hNN⟩ : ∃ n : Nat, n = W5.heap.size := ⟨_, rfl⟩
          rw [← hNN] at lt_B1 lt_B2 lt_B3 lt_B4 lhb B5 ⊢
          clear hNN
          have zN3_1 := lt_B1
          have zN3_2 := lt_B2
          have zN3_3 := lt_B3
          have zN3_4 := lt_B4
          have zN3 := lhb
          clear lt_B1 lt_B2 lt_B3 lt_B4 lhb
          try simp only [Act.put, pA, pB, pC]
          clear hrun
          have lt_B1 := B1.lt
          have lt_B2 := B2.lt
          have lt_B3 := B3.lt
          have lt_B4 := B4.lt
          have lt_B5 := B5.lt
          go_wp2_with (first | rw [← z64] | (refine zlr rfl 55 (.tmp 11) rfl _ rfl 55 (frC (mul ps ps).1 (mul ps ps).2).toArray (B5) _ Try.underlying55 rfl 128 Try.size55 (by simp [frC_len]) ?_) | (refine wpList_store_rowv rfl 55 (.tmp 5) (.tmp 43) rfl _ rfl (frC (mul ps ps).1 (mul ps ps).2).toArray rfl 55 _ (B1) 128 Try.size55 (by simp [frC_len]) (by simp [frC_len]) (frC_all _ _) ?_; try simp only [Act.put]))
          obtain ⟨W7, hwo, hzQ⟩ : ∃ v : World, v = (W6.setRow (w.heap.size + 1) (frC (mul ps ps).1 (mul ps ps).2).toArray) ∧ Row v (w.heap.size + 1) 55 (frC (mul ps ps).1 (mul ps ps).2).toArray ∧ Row v (w.heap.size + 1 + 1) 55 (frC (fun _ => 0) (fun _ => 0)).toArray ∧ MapG Try.prog 55 v (N1) L ∧ Row v (N2) 55 (frC (mul po ps).1 (mul po ps).2).toArray ∧ Row v (N3) 55 (frC (mul ps ps).1 (mul ps ps).2).toArray ∧ Below w.heap.size w v := ⟨_, rfl, (B1.row (frC (mul ps ps).1 (mul ps ps).2).toArray), (B2.rowOther (by omega)), (B3.rowOther (by omega)), (B4.rowOther (by omega)), (B5.rowOther (by omega)), (zr hb (by omega) _)⟩
          rw [← hwo]
          clear hwo B1 B2 B3 B4 B5 hb
          obtain ⟨B1, B2, B3, B4, B5, hb⟩ := hzQ
          try simp only [Act.put, pA, pB, pC]
          go_roundw
          case rel => exact ⟨q, k / 2, (mul po ps).1, (mul po ps).2, (mul ps ps).1, (mul ps ps).2, HV, HD.out, by omega, Lib.hid (fun _ => by have := HS2.out; rw [if_pos HO.out] at this; exact this), L, hL, by rw [show ((k / 2 : Nat) : Int) = (k : Int) / 2 by push_cast; rfl], hb, B1, B2, B3, B4⟩
          case measure => simp [intOf] <;> omega
      · have hq : (k : Int) / 2 = 0 := by omega
        have hq2 : ((k : Int).tdiv 2) = 0 := by rw [Int.tdiv_eq_ediv_of_nonneg (by omega)]; exact hq
        have HE := Lib.hid (show k / 2 = 0 by omega)
        clear h1
        go_wp2_with fail
        go_roundw
        case rel => exact ⟨q, 0, (mul po ps).1, (mul po ps).2, ps.1, ps.2, L, Lib.hid (HV.out.trans (by rw [HE.out, pgF_z, pgF_z])), Nat.pow_pos (by omega), by omega, Lib.hid (fun h => absurd h (by omega)), hL, by simp, hb, B1, B2, B3, B4⟩
        case measure => simp [intOf] <;> omega
    · have hb1 : (((k : Int) % 2) == 1) = false := beq_eq_false_iff_ne.2 (by omega)
      have hb2 : (((k : Int).tmod 2) == 1) = false := by rw [Int.tmod_eq_emod_of_nonneg (by omega)]; exact hb1
      have HO := Lib.hid hodd
      have HV := Lib.hid (hP.out.trans (pgF_even hz hodd))
      have HD := Lib.hid (show k / 2 < 2 ^ q by have := HKQ.out; rw [Nat.pow_succ] at this; omega)
      clear hodd hz hP
      go_upto_region 6 with (fail)
      clear hb1 hb2
      by_cases h1 : 1 < k
      · have hq : 1 ≤ (k : Int) / 2 := by omega
        have hq2 : 0 < (k : Int) / 2 := by omega
        have HS2 := Lib.hid (HS.out k po ps HP.out h1)
        have HT := Lib.hid (fun W => HT2.out k po ps W HP.out h1)
        obtain ⟨hy1, hy2, hy3⟩ := HB.out k po ps HP.out
        obtain ⟨kl, hkl⟩ := Try.keyOfForm hy1 hy2
        have HKL := Lib.hid hkl
        have HCF := Lib.hid hy3
        have hlk := B3.look Try.keyForm Try.underlying142 (Try.zeroForm _) true hkl
        clear hkl h1 hy1 hy2 hy3
        go_upto_region 8 with (fail)
        clear hq2
        rcases hlk with ⟨hrun, hno⟩ | ⟨v, hin, hrun⟩
        · simp only [if_true] at hrun
          have lt_B1 := B1.lt
          have lt_B2 := B2.lt
          have lt_B3 := B3.lt
          have lt_B4 := B4.lt
          go_upto_region 10 with (first | rw [← z64] | rw [← frC_zero] | (refine zlr rfl 55 (.tmp 5) rfl _ rfl 55 (frC ps.1 ps.2).toArray (B1) _ Try.underlying55 rfl 128 Try.size55 (by simp [frC_len]) ?_) | (at_lookup; refine wpList_look _ rfl _ _ 142 true rfl _ rfl _ rfl (.tuple #[.agg (frC (fun _ => 0) (fun _ => 0)).toArray, .bool false]) hrun ?_) | (refine wpList_store_rowv rfl 55 (.tmp 11) (.tmp 32) rfl _ rfl (frC (fun _ => 0) (fun _ => 0)).toArray rfl 55 _ ((Row.new wr 55 (frC (fun _ => 0) (fun _ => 0)).toArray)) 128 Try.size55 (by simp [frC_len]) (by simp [frC_len]) (frC_all _ _) ?_; try simp only [Act.put]; go_upto_region 10 with (fail)))
          have lt_B1 := B1.lt
          have lt_B2 := B2.lt
          have lt_B3 := B3.lt
          have lt_B4 := B4.lt
          have lhb := hb.size
          obtain ⟨W4, hwo, hzQ⟩ : ∃ v : World, v = ((wr.alloc (.cells (frC (fun _ => 0) (fun _ => 0)).toArray 55)).setRow (wr.heap.size) (frC (fun _ => 0) (fun _ => 0)).toArray) ∧ Row v (w.heap.size + 1) 55 (frC ps.1 ps.2).toArray ∧ Row v (w.heap.size + 1 + 1) 55 (frC (fun _ => 0) (fun _ => 0)).toArray ∧ MapG Try.prog 55 v (N1) L ∧ Row v (N2) 55 (frC po.1 po.2).toArray ∧ Row v (wr.heap.size) 55 (frC (fun _ => 0) (fun _ => 0)).toArray ∧ Below w.heap.size w v := ⟨_, rfl, ((B1.alloc (.cells (frC (fun _ => 0) (fun _ => 0)).toArray 55)).rowOther (by omega)), ((B2.alloc (.cells (frC (fun _ => 0) (fun _ => 0)).toArray 55)).rowOther (by omega)), ((B3.alloc (.cells (frC (fun _ => 0) (fun _ => 0)).toArray 55)).rowOther (by omega)), ((B4.alloc (.cells (frC (fun _ => 0) (fun _ => 0)).toArray 55)).rowOther (by omega)), ((Row.new wr 55 (frC (fun _ => 0) (fun _ => 0)).toArray).row (frC (fun _ => 0) (fun _ => 0)).toArray), (zr (hb.alloc (by have := hb.size; simp; omega) (.cells (frC (fun _ => 0) (fun _ => 0)).toArray 55)) (by omega) _)⟩
          rw [← hwo]
          clear hwo B1 B2 B3 B4 hb
          obtain ⟨B1, B2, B3, B4, B5, hb⟩ := hzQ
          obtain ⟨N3, hNN⟩ : ∃ n : Nat, n = wr.heap.size := ⟨_, rfl⟩
          rw [← hNN] at lt_B1 lt_B2 lt_B3 lt_B4 lhb B5 ⊢
          clear hNN
          have zN3_1 := lt_B1
          have zN3_2 := lt_B2
          have zN3_3 := lt_B3
          have zN3_4 := lt_B4
          have zN3 := lhb
          clear lt_B1 lt_B2 lt_B3 lt_B4 lhb
          try simp only [Act.put, pA, pB, pC]
          clear hrun
          have lt_B1 := B1.lt
          have lt_B2 := B2.lt
          have lt_B3 := B3.lt
          have lt_B4 := B4.lt
          have lt_B5 := B5.lt
          go_upto_region 11 with (first | rw [← z64] | (refine zlr rfl 55 (.tmp 5) rfl _ rfl 55 (frC ps.1 ps.2).toArray (B1) _ Try.underlying55 rfl 128 Try.size55 (by simp [frC_len]) ?_) | (refine zlr rfl 55 (.tmp 5) rfl _ rfl 55 (frC ps.1 ps.2).toArray (B1) _ Try.underlying55 rfl 128 Try.size55 (by simp [frC_len]) ?_) | (go_at_call 135; refine (HT.out _).mono ?_; rintro e W5 ⟨rfl, hW5⟩; replace B1 := B1.zw hW5; replace B2 := B2.zw hW5; replace B3 := B3.zw hW5; replace B4 := B4.zw hW5; replace B5 := B5.zw hW5; replace hb := (hb).trans (hW5.mono (hb).size)) | (refine wpList_store_rowv rfl 55 (.tmp 11) (.tmp 39) rfl _ rfl (frC (mul ps ps).1 (mul ps ps).2).toArray rfl 55 _ (B5) 128 Try.size55 (by simp [frC_len]) (by simp [frC_len]) (frC_all _ _) ?_; try simp only [Act.put]))
          obtain ⟨W6, hwo, hzQ⟩ : ∃ v : World, v = (W5.setRow (N3) (frC (mul ps ps).1 (mul ps ps).2).toArray) ∧ Row v (w.heap.size + 1) 55 (frC ps.1 ps.2).toArray ∧ Row v (w.heap.size + 1 + 1) 55 (frC (fun _ => 0) (fun _ => 0)).toArray ∧ MapG Try.prog 55 v (N1) L ∧ Row v (N2) 55 (frC po.1 po.2).toArray ∧ Row v (N3) 55 (frC (mul ps ps).1 (mul ps ps).2).toArray ∧ Below w.heap.size w v := ⟨_, rfl, (B1.rowOther (by omega)), (B2.rowOther (by omega)), (B3.rowOther (by omega)), (B4.rowOther (by omega)), (B5.row (frC (mul ps ps).1 (mul ps ps).2).toArray), (zr hb (by omega) _)⟩
          rw [← hwo]
          clear hwo B1 B2 B3 B4 B5 hb
          obtain ⟨B1, B2, B3, B4, B5, hb⟩ := hzQ
          try simp only [Act.put, pA, pB, pC]
          obtain ⟨wM, hput, hmn, hgr⟩ := B3.put (val := .agg (frC (mul ps ps).1 (mul ps ps).2).toArray) Try.keyForm Try.underlying142 HKL.out hno
          have gB1 : Row wM (w.heap.size + 1) 55 (frC ps.1 ps.2).toArray := B1.grownR hgr (by omega)
          have gB2 : Row wM (w.heap.size + 1 + 1) 55 (frC (fun _ => 0) (fun _ => 0)).toArray := B2.grownR hgr (by omega)
          have gB4 : Row wM (N2) 55 (frC po.1 po.2).toArray := B4.grownR hgr (by omega)
          have gB5 : Row wM (N3) 55 (frC (mul ps ps).1 (mul ps ps).2).toArray := B5.grownR hgr (by omega)
          have ghb : Below w.heap.size w wM := hb.grown hgr hb.size (fun j e => by cases e; omega)
          go_upto_region 12 with (first | (refine zlr rfl 55 (.tmp 5) rfl _ rfl 55 (frC ps.1 ps.2).toArray (B1) _ Try.underlying55 rfl 128 Try.size55 (by simp [frC_len]) ?_) | (refine zlr rfl 55 (.tmp 11) rfl _ rfl 55 (frC (mul ps ps).1 (mul ps ps).2).toArray (B5) _ Try.underlying55 rfl 128 Try.size55 (by simp [frC_len]) ?_) | (at_mapUpdate; refine wpList_put _ rfl _ _ _ 142 rfl _ rfl _ rfl _ rfl wM hput ?_; go_upto_region 12 with (fail)))
          clear B1 B2 B3 B4 B5 hb hput hgr hno
          have B1 := gB1
          clear gB1
          have B2 := gB2
          clear gB2
          have B3 := hmn
          clear hmn
          have B4 := gB4
          clear gB4
          have B5 := gB5
          clear gB5
          have hb := ghb
          clear ghb
          have lt_B1 := B1.lt
          have lt_B2 := B2.lt
          have lt_B3 := B3.lt
          have lt_B4 := B4.lt
          have lt_B5 := B5.lt
          go_wp2_with (first | rw [← z64] | (refine zlr rfl 55 (.tmp 11) rfl _ rfl 55 (frC (mul ps ps).1 (mul ps ps).2).toArray (B5) _ Try.underlying55 rfl 128 Try.size55 (by simp [frC_len]) ?_) | (refine wpList_store_rowv rfl 55 (.tmp 5) (.tmp 43) rfl _ rfl (frC (mul ps ps).1 (mul ps ps).2).toArray rfl 55 _ (B1) 128 Try.size55 (by simp [frC_len]) (by simp [frC_len]) (frC_all _ _) ?_; try simp only [Act.put]))
          obtain ⟨W7, hwo, hzQ⟩ : ∃ v : World, v = (wM.setRow (w.heap.size + 1) (frC (mul ps ps).1 (mul ps ps).2).toArray) ∧ Row v (w.heap.size + 1) 55 (frC (mul ps ps).1 (mul ps ps).2).toArray ∧ Row v (w.heap.size + 1 + 1) 55 (frC (fun _ => 0) (fun _ => 0)).toArray ∧ MapG Try.prog 55 v (N1) (L ++ [(.agg (frC ps.1 ps.2).toArray, .agg (frC (mul ps ps).1 (mul ps ps).2).toArray)]) ∧ Row v (N2) 55 (frC po.1 po.2).toArray ∧ Row v (N3) 55 (frC (mul ps ps).1 (mul ps ps).2).toArray ∧ Below w.heap.size w v := ⟨_, rfl, (B1.row (frC (mul ps ps).1 (mul ps ps).2).toArray), (B2.rowOther (by omega)), (B3.rowOther (by omega)), (B4.rowOther (by omega)), (B5.rowOther (by omega)), (zr hb (by omega) _)⟩
          rw [← hwo]
          clear hwo B1 B2 B3 B4 B5 hb
          obtain ⟨B1, B2, B3, B4, B5, hb⟩ := hzQ
          try simp only [Act.put, pA, pB, pC]
          go_roundw
          case rel => exact ⟨q, k / 2, po.1, po.2, (mul ps ps).1, (mul ps ps).2, HV, HD.out, by omega, Lib.hid (fun _ => by have := HS2.out; rw [if_neg HO.out] at this; exact this), L ++ [(.agg (frC ps.1 ps.2).toArray, .agg (frC (mul ps ps).1 (mul ps ps).2).toArray)], Lib.hid (by intro q hq; rcases List.mem_append.1 hq with h | h; exact hL.out q h; rw [List.mem_singleton] at h; subst h; exact ⟨ps, HCF.out, rfl, rfl⟩), by rw [show ((k / 2 : Nat) : Int) = (k : Int) / 2 by push_cast; rfl], hb, B1, B2, B3, B4⟩
          case measure => simp [intOf] <;> omega
        · simp only [if_true] at hrun
          obtain rfl : v = .agg (frC (mul ps ps).1 (mul ps ps).2).toArray := by
           obtain ⟨x, e0, e1, e2⟩ := hL.out _ hin
           obtain ⟨i1, i2⟩ := frC_inj (show (Value.agg (frC ps.1 ps.2).toArray) = .agg (frC x.1 x.2).toArray from e1)
           have e5 : v = .agg (frC (mul x x).1 (mul x x).2).toArray := e2
           rw [e5, cfx_eq e0 HCF.out (fun k hk => (i1 k hk).symm) (fun k hk => (i2 k hk).symm)]
          clear hin
          have lt_B1 := B1.lt
          have lt_B2 := B2.lt
          have lt_B3 := B3.lt
          have lt_B4 := B4.lt
          go_upto_region 12 with (first | rw [← z64] | rw [← frC_zero] | (refine zlr rfl 55 (.tmp 5) rfl _ rfl 55 (frC ps.1 ps.2).toArray (B1) _ Try.underlying55 rfl 128 Try.size55 (by simp [frC_len]) ?_) | (at_lookup; refine wpList_look _ rfl _ _ 142 true rfl _ rfl _ rfl (.tuple #[.agg (frC (mul ps ps).1 (mul ps ps).2).toArray, .bool true]) hrun ?_) | (refine wpList_store_rowv rfl 55 (.tmp 11) (.tmp 32) rfl _ rfl (frC (mul ps ps).1 (mul ps ps).2).toArray rfl 55 _ ((Row.new wr 55 (frC (fun _ => 0) (fun _ => 0)).toArray)) 128 Try.size55 (by simp [frC_len]) (by simp [frC_len]) (frC_all _ _) ?_; try simp only [Act.put]; go_upto_region 12 with (fail)))
          have lt_B1 := B1.lt
          have lt_B2 := B2.lt
          have lt_B3 := B3.lt
          have lt_B4 := B4.lt
          have lhb := hb.size
          obtain ⟨W4, hwo, hzQ⟩ : ∃ v : World, v = ((wr.alloc (.cells (frC (fun _ => 0) (fun _ => 0)).toArray 55)).setRow (wr.heap.size) (frC (mul ps ps).1 (mul ps ps).2).toArray) ∧ Row v (w.heap.size + 1) 55 (frC ps.1 ps.2).toArray ∧ Row v (w.heap.size + 1 + 1) 55 (frC (fun _ => 0) (fun _ => 0)).toArray ∧ MapG Try.prog 55 v (N1) L ∧ Row v (N2) 55 (frC po.1 po.2).toArray ∧ Row v (wr.heap.size) 55 (frC (mul ps ps).1 (mul ps ps).2).toArray ∧ Below w.heap.size w v := ⟨_, rfl, ((B1.alloc (.cells (frC (fun _ => 0) (fun _ => 0)).toArray 55)).rowOther (by omega)), ((B2.alloc (.cells (frC (fun _ => 0) (fun _ => 0)).toArray 55)).rowOther (by omega)), ((B3.alloc (.cells (frC (fun _ => 0) (fun _ => 0)).toArray 55)).rowOther (by omega)), ((B4.alloc (.cells (frC (fun _ => 0) (fun _ => 0)).toArray 55)).rowOther (by omega)), ((Row.new wr 55 (frC (fun _ => 0) (fun _ => 0)).toArray).row (frC (mul ps ps).1 (mul ps ps).2).toArray), (zr (hb.alloc (by have := hb.size; simp; omega) (.cells (frC (fun _ => 0) (fun _ => 0)).toArray 55)) (by omega) _)⟩
          rw [← hwo]
          clear hwo B1 B2 B3 B4 hb
          obtain ⟨B1, B2, B3, B4, B5, hb⟩ := hzQ
          obtain ⟨N3, hNN⟩ : ∃ n : Nat, n = wr.heap.size := ⟨_, rfl⟩
          rw [← hNN] at lt_B1 lt_B2 lt_B3 lt_B4 lhb B5 ⊢
          clear hNN
          have zN3_1 := lt_B1
          have zN3_2 := lt_B2
          have zN3_3 := lt_B3
          have zN3_4 := lt_B4
          have zN3 := lhb
          clear lt_B1 lt_B2 lt_B3 lt_B4 lhb
          try simp only [Act.put, pA, pB, pC]
          clear hrun
          have lt_B1 := B1.lt
          have lt_B2 := B2.lt
          have lt_B3 := B3.lt
          have lt_B4 := B4.lt
          have lt_B5 := B5.lt
          go_wp2_with (first | rw [← z64] | (refine zlr rfl 55 (.tmp 11) rfl _ rfl 55 (frC (mul ps ps).1 (mul ps ps).2).toArray (B5) _ Try.underlying55 rfl 128 Try.size55 (by simp [frC_len]) ?_) | (refine wpList_store_rowv rfl 55 (.tmp 5) (.tmp 43) rfl _ rfl (frC (mul ps ps).1 (mul ps ps).2).toArray rfl 55 _ (B1) 128 Try.size55 (by simp [frC_len]) (by simp [frC_len]) (frC_all _ _) ?_; try simp only [Act.put]))
          obtain ⟨W5, hwo, hzQ⟩ : ∃ v : World, v = (W4.setRow (w.heap.size + 1) (frC (mul ps ps).1 (mul ps ps).2).toArray) ∧ Row v (w.heap.size + 1) 55 (frC (mul ps ps).1 (mul ps ps).2).toArray ∧ Row v (w.heap.size + 1 + 1) 55 (frC (fun _ => 0) (fun _ => 0)).toArray ∧ MapG Try.prog 55 v (N1) L ∧ Row v (N2) 55 (frC po.1 po.2).toArray ∧ Row v (N3) 55 (frC (mul ps ps).1 (mul ps ps).2).toArray ∧ Below w.heap.size w v := ⟨_, rfl, (B1.row (frC (mul ps ps).1 (mul ps ps).2).toArray), (B2.rowOther (by omega)), (B3.rowOther (by omega)), (B4.rowOther (by omega)), (B5.rowOther (by omega)), (zr hb (by omega) _)⟩
          rw [← hwo]
          clear hwo B1 B2 B3 B4 B5 hb
          obtain ⟨B1, B2, B3, B4, B5, hb⟩ := hzQ
          try simp only [Act.put, pA, pB, pC]
          go_roundw
          case rel => exact ⟨q, k / 2, po.1, po.2, (mul ps ps).1, (mul ps ps).2, HV, HD.out, by omega, Lib.hid (fun _ => by have := HS2.out; rw [if_neg HO.out] at this; exact this), L, hL, by rw [show ((k / 2 : Nat) : Int) = (k : Int) / 2 by push_cast; rfl], hb, B1, B2, B3, B4⟩
          case measure => simp [intOf] <;> omega
      · have hq : (k : Int) / 2 = 0 := by omega
        have hq2 : ((k : Int).tdiv 2) = 0 := by rw [Int.tdiv_eq_ediv_of_nonneg (by omega)]; exact hq
        have HE := Lib.hid (show k / 2 = 0 by omega)
        clear h1
        go_wp2_with fail
        go_roundw
        case rel => exact ⟨q, 0, po.1, po.2, ps.1, ps.2, L, Lib.hid (HV.out.trans (by rw [HE.out, pgF_z, pgF_z])), Nat.pow_pos (by omega), by omega, Lib.hid (fun h => absurd h (by omega)), hL, by simp, hb, B1, B2, B3, B4⟩
        case measure => simp [intOf] <;> omega
theorem composed_mu (p g : Nat) (D : Nat → Nat) (F G : ((Nat → Nat) × (Nat → Nat))) (w : World) (hpr : p = 2 ∨ p = 3 ∨ p = 5 ∨ p = 7) (lD : ∀ k, k < 64 → D k < p) (hD : deg D = ((2 * g + 1 : Nat) : Int)) (hg : g ≤ 2) (hF : fmC p D g F) (hG : fmC p D g G) :
 Calls Try.prog 135 #[.agg (fdC (p : Int) D).toArray, .agg (frC F.1 F.2).toArray, .agg (frC G.1 G.2).toArray] w fun e w' => e = .returned (.agg (frC (muF p D g F G).1 (muF p D g F G).2).toArray) ∧ Below w.heap.size w w' := by
 have := composed_any p g D F.1 F.2 G.1 G.2 w hpr lD hD hg hF.2 hG.2
 rw [frC_congr (A := (cpF p D g F.1 F.2 G.1 G.2).1) (B := (cpF p D g F.1 F.2 G.1 G.2).2) (A' := (muF p D g F G).1) (B' := (muF p D g F G).2) (fun i hi => by unfold muF; exact (cut_in _ hi).symm) (fun i hi => by unfold muF; exact (cut_in _ hi).symm)] at this
 exact this
theorem l07Compose_mu (p g : Nat) (D : Nat → Nat) (F G : ((Nat → Nat) × (Nat → Nat))) (w : World) (hpr : p = 2 ∨ p = 3 ∨ p = 5 ∨ p = 7) (lD : ∀ k, k < 64 → D k < p) (hD : deg D = ((2 * g + 1 : Nat) : Int)) (hg : g ≤ 2) (hF : fmC p D g F) (hG : fmC p D g G) :
 Calls Try.prog 133 #[.int .i64 (p : Int), .agg (zb 64 D), .agg (frC F.1 F.2).toArray, .agg (frC G.1 G.2).toArray] w fun e w' => e = .returned (.agg (frC (muF p D g F G).1 (muF p D g F G).2).toArray) ∧ Below w.heap.size w w' := by
 have := l07Compose_any p g D F.1 F.2 G.1 G.2 w hpr lD hD hg hF.2 hG.2
 rw [frC_congr (A := (cpF p D g F.1 F.2 G.1 G.2).1) (B := (cpF p D g F.1 F.2 G.1 G.2).2) (A' := (muF p D g F G).1) (B' := (muF p D g F G).2) (fun i hi => by unfold muF; exact (cut_in _ hi).symm) (fun i hi => by unfold muF; exact (cut_in _ hi).symm)] at this
 exact this
theorem fmC_byte {p g : Nat} {D : Nat → Nat} {F : ((Nat → Nat) × (Nat → Nat))} (hp : p ≤ 7) (h : fmC p D g F) : (∀ i, i < 64 → F.1 i < 256) ∧ (∀ i, i < 64 → F.2 i < 256) ∧ cfx F :=
 ⟨fun i hi => by have := h.2.1.1 i hi; omega, fun i hi => by have := h.2.1.2.1 i hi; omega, h.1⟩
theorem powForm_any (p g : Nat) (D : Nat → Nat) (f : ((Nat → Nat) × (Nat → Nat))) (k0 : Nat) (w : World) (hpr : p = 2 ∨ p = 3 ∨ p = 5 ∨ p = 7) (lD : ∀ k, k < 64 → D k < p) (hD : deg D = ((2 * g + 1 : Nat) : Int)) (hg : g ≤ 2) (hf : fmC p D g f) (hk0 : (k0 : Int) ≤ 1000000000000) :
 Calls Try.prog 139 #[.agg (frC oneP (fun _ => 0)).toArray, .agg (frC f.1 f.2).toArray, .int .i64 (k0 : Int), .func (.func 135) #[.agg (fdC (p : Int) D).toArray] #[]] w fun e w' => e = .returned (.agg (frC (pgF (muF p D g) 64 k0 (oneP, fun _ => 0) f).1 (pgF (muF p D g) 64 k0 (oneP, fun _ => 0) f).2).toArray) ∧ Below w.heap.size w w' := by
 exact powerForm (muF p D g) (fun _ r s => fmC p D g r ∧ fmC p D g s) _ f k0 w
  (Lib.hid fun k r s W hP _ => composed_mu p g D r s W hpr lD hD hg hP.1 hP.2) (Lib.hid fun k r s W hP _ => composed_mu p g D s s W hpr lD hD hg hP.2 hP.2)
  (Lib.hid fun k r s hP _ => ⟨by
   by_cases h : k % 2 = 1
   · rw [if_pos h]; exact muF_ok hpr lD hD hg hP.1 hP.2
   · rw [if_neg h]; exact hP.1, muF_ok hpr lD hD hg hP.2 hP.2⟩)
  (Lib.hid fun k r s hP => fmC_byte (by omega) hP.2) (fun _ => ⟨⟨cfx_one, unit_form (by omega)⟩, hf⟩) hk0
/-- the form whose power is taken -/
def pbF (n : Nat) (A B : Nat → Nat) (k : Int) : ((Nat → Nat) × (Nat → Nat)) := if k < 0 then (cut A, cut (ngP n B)) else (cut A, cut B)
theorem pbF_n (n : Nat) (A B : Nat → Nat) {k : Int} (h : k < 0) : pbF n A B k = (cut A, cut (ngP n B)) := if_pos h
theorem pbF_p (n : Nat) (A B : Nat → Nat) {k : Int} (h : ¬ k < 0) : pbF n A B k = (cut A, cut B) := if_neg h
noncomputable def pfV (p : Int) (D A B : Nat → Nat) (k : Int) : ((Nat → Nat) × (Nat → Nat)) × Int :=
 if ckF p D [(A, B)] = 0 then (if -1000000000000 ≤ k ∧ k ≤ 1000000000000 then (if deg A ≤ deg D / 2 then (pgF (muF p.toNat D (deg D / 2).toNat) 64 k.natAbs (oneP, fun _ => 0) (pbF p.toNat A B k), 0) else ((fun _ => 0, fun _ => 0), 5)) else ((fun _ => 0, fun _ => 0), 2)) else ((fun _ => 0, fun _ => 0), 1)
theorem pfV_1 {p k : Int} {D A B : Nat → Nat} (h : ckF p D [(A, B)] = 1) : pfV p D A B k = ((fun _ => 0, fun _ => 0), 1) := if_neg (by omega)
theorem pfV_2 {p k : Int} {D A B : Nat → Nat} (h : ckF p D [(A, B)] = 0) (h2 : ¬ (-1000000000000 ≤ k ∧ k ≤ 1000000000000)) : pfV p D A B k = ((fun _ => 0, fun _ => 0), 2) := by unfold pfV; rw [if_pos h, if_neg h2]
theorem pfV_5 {p k : Int} {D A B : Nat → Nat} (h : ckF p D [(A, B)] = 0) (h2 : -1000000000000 ≤ k ∧ k ≤ 1000000000000) (h3 : ¬ deg A ≤ deg D / 2) : pfV p D A B k = ((fun _ => 0, fun _ => 0), 5) := by unfold pfV; rw [if_pos h, if_pos h2, if_neg h3]
theorem pfV_0 {n g : Nat} {k : Int} {D A B : Nat → Nat} (h : ckF (n : Int) D [(A, B)] = 0) (h2 : -1000000000000 ≤ k ∧ k ≤ 1000000000000) (h3 : deg A ≤ deg D / 2) (hD : deg D = ((2 * g + 1 : Nat) : Int)) : pfV (n : Int) D A B k = (pgF (muF n D g) 64 k.natAbs (oneP, fun _ => 0) (pbF n A B k), 0) := by
 unfold pfV; rw [if_pos h, if_pos h2, if_pos h3, Int.toNat_natCast, show (deg D / 2).toNat = g by omega]
attribute [irreducible] pbF pfV
set_option maxRecDepth 100000 in
set_option maxHeartbeats 9000000 in
theorem impl_PowerOfForm_any (p : Int) (D A B : Nat → Nat) (k : Int) (hD : byte D) (hA : byte A) (hB : byte B) (w : World) :
 Calls Try.prog 77 #[.int .i64 p, .agg (zb 64 D), .agg (frC A B).toArray, .int .i64 k] w fun e w' => e = .returned (.tuple #[.agg (frC (pfV p D A B k).1.1 (pfV p D A B k).1.2).toArray, .int .i64 (pfV p D A B k).2]) ∧ Below w.heap.size w w' := by
 go_enter Try.func77, Try.ntmps77
 go_upto_region 1 with (fail)
 rw [← frC_zero]
 obtain ⟨W1, hwo⟩ : ∃ v : World, v = (((w.alloc (.cells (zb 64 (D)) 23)).alloc (.cells (frC A B).toArray 55)).alloc (.cells (frC (fun _ => 0) (fun _ => 0)).toArray 55)) := ⟨_, rfl⟩
 have B0 : Blk W1 (w.heap.size) 64 23 (D) := by subst hwo; have := (((Blk.new w 64 23 (D)).alloc (.cells (frC A B).toArray 55)).alloc (.cells (frC (fun _ => 0) (fun _ => 0)).toArray 55)); simpa using this
 have B1 : Row W1 (w.heap.size + 1) 55 (frC A B).toArray := by subst hwo; have := ((Row.new (w.alloc (.cells (zb 64 (D)) 23)) 55 (frC A B).toArray).alloc (.cells (frC (fun _ => 0) (fun _ => 0)).toArray 55)); simpa using this
 have B2 : Row W1 (w.heap.size + 1 + 1) 55 (frC (fun _ => 0) (fun _ => 0)).toArray := by subst hwo; have := (Row.new ((w.alloc (.cells (zb 64 (D)) 23)).alloc (.cells (frC A B).toArray 55)) 55 (frC (fun _ => 0) (fun _ => 0)).toArray); simpa using this
 have hb : Below w.heap.size w W1 := by subst hwo; exact ((((Below.refl _ _).alloc (Nat.le_refl _) _).alloc (by simp) _).alloc (by simp; omega) _)
 rw [← hwo]
 clear hwo
 rcases ckF_two p D [(A, B)] with hc | hc
 · have hc0 := hc
   obtain ⟨n, g, rfl, hpr, lD, hg2, hdg, hall⟩ := ckF_fm hc (A := A) (B := B) (by simp)
   have hf := hall (A, B) (by simp)
   dsimp only at hf
   clear hall
   have hdv : deg D / 2 = (g : Int) := by omega
   go_upto_region 4 with (first | (refine zla (.tmp 5) B0 Try.underlying23 Try.size23 ?_) | (refine zlr rfl 55 (.tmp 6) rfl _ rfl 55 (frC A B).toArray (B1) _ Try.underlying55 rfl 128 Try.size55 (by simp [frC_len]) ?_) | (go_at_call 129; refine (checkForms_any (n : Int) D hD [(A, B)] (by simp [hA, hB]) (by simp) _ _ hps).mono ?_; rintro e W2 ⟨rfl, hW2⟩; replace B0 := B0.zw hW2; replace B1 := B1.zw hW2; replace B2 := B2.zw hW2; replace hb := (hb).trans (hW2.mono (hb).size); rw [hc]) | (refine wpList_build_frs rfl 61 _ [(A, B)] rfl 55 Try.underlying61 Try.elem55 (by simp) (by simp) rfl ?_; intro wa hps hba; replace B0 := B0.zw hba; replace B1 := B1.zw hba; replace B2 := B2.zw hba; replace hb := hb.trans (hba.mono hb.size)))
   clear hc
   by_cases hr : -1000000000000 ≤ k ∧ k ≤ 1000000000000
   · have hr1 := hr.1
     have hr2 := hr.2
     by_cases hred : deg A ≤ (g : Int)
     · have HV := Lib.hid (pfV_0 hc0 hr (by rw [hdv]; exact hred) hdg)
       have HR1 := Lib.hid (fun W => isReduced_any (n : Int) g D A B W hdg)
       rw [show decide (deg A ≤ (g : Int)) = true by simpa using hred] at HR1
       go_upto_region 6 with (fail)
       have lt_B0 := B0.lt
       have lt_B1 := B1.lt
       have lt_B2 := B2.lt
       go_upto_region 7 with (first | rw [← z64] | rw [← cvC_zero] | (refine zla (.tmp 5) B0 Try.underlying23 Try.size23 ?_) | (refine wpList_store_rowv rfl 107 (.tmp 11) (.tmp 30) rfl _ rfl (fdC (n : Int) D).toArray rfl 107 _ ((Row.new W2 107 (fdC 0 (fun _ => 0)).toArray)) 65 Try.size107 (by simp [fdC_len]) (by simp [fdC_len]) (fdC_all _ _) ?_; try simp only [Act.put]) | (refine zbo rfl 107 _ rfl (fdC (n : Int) D).toArray (by rw [Array.toList_map]; exact built_cv _ _) ?_))
       have lt_B0 := B0.lt
       have lt_B1 := B1.lt
       have lt_B2 := B2.lt
       have lhb := hb.size
       obtain ⟨W3, hwo, hzQ⟩ : ∃ v : World, v = ((W2.alloc (.cells (fdC 0 (fun _ => 0)).toArray 107)).setRow (W2.heap.size) (fdC (n : Int) D).toArray) ∧ Blk v (w.heap.size) 64 23 (D) ∧ Row v (w.heap.size + 1) 55 (frC A B).toArray ∧ Row v (w.heap.size + 1 + 1) 55 (frC (fun _ => 0) (fun _ => 0)).toArray ∧ Row v (W2.heap.size) 107 (fdC (n : Int) D).toArray ∧ Below w.heap.size w v := ⟨_, rfl, ((B0.alloc (.cells (fdC 0 (fun _ => 0)).toArray 107)).rowOther (by omega)), ((B1.alloc (.cells (fdC 0 (fun _ => 0)).toArray 107)).rowOther (by omega)), ((B2.alloc (.cells (fdC 0 (fun _ => 0)).toArray 107)).rowOther (by omega)), ((Row.new W2 107 (fdC 0 (fun _ => 0)).toArray).row (fdC (n : Int) D).toArray), (zr (hb.alloc (by have := hb.size; simp; omega) (.cells (fdC 0 (fun _ => 0)).toArray 107)) (by omega) _)⟩
       rw [← hwo]
       clear hwo B0 B1 B2 hb
       obtain ⟨B0, B1, B2, B3, hb⟩ := hzQ
       obtain ⟨N1, hNN⟩ : ∃ n : Nat, n = W2.heap.size := ⟨_, rfl⟩
       rw [← hNN] at lt_B0 lt_B1 lt_B2 lhb B3 ⊢
       clear hNN
       have zN1_0 := lt_B0
       have zN1_1 := lt_B1
       have zN1_2 := lt_B2
       have zN1 := lhb
       clear lt_B0 lt_B1 lt_B2 lhb
       try simp only [Act.put, pA, pB, pC]
       go_upto_region 9 with (first | (refine zlr rfl 107 (.tmp 11) rfl _ rfl 107 (fdC (n : Int) D).toArray (B3) _ Try.underlying107 rfl 65 Try.size107 (by simp [fdC_len]) ?_) | (refine zlr rfl 55 (.tmp 6) rfl _ rfl 55 (frC A B).toArray (B1) _ Try.underlying55 rfl 128 Try.size55 (by simp [frC_len]) ?_) | (go_at_call 134; refine (HR1.out _).mono ?_; rintro e W4 ⟨rfl, hW4⟩; replace B0 := B0.zw hW4; replace B1 := B1.zw hW4; replace B2 := B2.zw hW4; replace B3 := B3.zw hW4; replace hb := (hb).trans (hW4.mono (hb).size)))
       by_cases hneg : k < 0
       · obtain ⟨j, rfl⟩ : ∃ j : Nat, k = -(j : Int) := ⟨(-k).toNat, by omega⟩
         rw [pbF_n n A B hneg, show (-(j : Int)).natAbs = j by omega] at HV
         have HIN := Lib.hid (fun W => inverse_any n D A B W (by omega) (by omega) hf.2.1)
         go_upto_region 10 with (fail)
         have lt_B0 := B0.lt
         have lt_B1 := B1.lt
         have lt_B2 := B2.lt
         have lt_B3 := B3.lt
         go_wp2_with (first | rw [← z64] | (refine zlr rfl 107 (.tmp 11) rfl _ rfl 107 (fdC (n : Int) D).toArray (B3) _ Try.underlying107 rfl 65 Try.size107 (by simp [fdC_len]) ?_) | (refine zlr rfl 55 (.tmp 6) rfl _ rfl 55 (frC A B).toArray (B1) _ Try.underlying55 rfl 128 Try.size55 (by simp [frC_len]) ?_) | (go_at_call 137; refine (HIN.out _).mono ?_; rintro e W5 ⟨rfl, hW5⟩; replace B0 := B0.zw hW5; replace B1 := B1.zw hW5; replace B2 := B2.zw hW5; replace B3 := B3.zw hW5; replace hb := (hb).trans (hW5.mono (hb).size)) | (refine wpList_store_rowv rfl 55 (.tmp 6) (.tmp 40) rfl _ rfl (frC A (ngP n B)).toArray rfl 55 _ (B1) 128 Try.size55 (by simp [frC_len]) (by simp [frC_len]) (frC_all _ _) ?_; try simp only [Act.put]; go_wp2_with fail))
         obtain ⟨W6, hwo, hzQ⟩ : ∃ v : World, v = (W5.setRow (w.heap.size + 1) (frC A (ngP n B)).toArray) ∧ Blk v (w.heap.size) 64 23 (D) ∧ Row v (w.heap.size + 1) 55 (frC A (ngP n B)).toArray ∧ Row v (w.heap.size + 1 + 1) 55 (frC (fun _ => 0) (fun _ => 0)).toArray ∧ Row v (N1) 107 (fdC (n : Int) D).toArray ∧ Below w.heap.size w v := ⟨_, rfl, (B0.rowOther (by omega)), (B1.row (frC A (ngP n B)).toArray), (B2.rowOther (by omega)), (B3.rowOther (by omega)), (zr hb (by omega) _)⟩
         rw [← hwo]
         clear hwo B0 B1 B2 B3 hb
         obtain ⟨B0, B1, B2, B3, hb⟩ := hzQ
         try simp only [Act.put, pA, pB, pC]
         have hR : fmR n D A (ngP n B) g := ng_form hpr ⟨hf, hred⟩
         have hcut : frC A (ngP n B) = frC (cut A) (cut (ngP n B)) := frC_congr (fun i hi => (cut_in _ hi).symm) (fun i hi => (cut_in _ hi).symm)
         have hfc : fmC n D g (cut A, cut (ngP n B)) := ⟨cfx_cut _ _, fmR_cut (by omega) hR⟩
         have hj9 : (j : Int) ≤ 1000000000000 := by omega
         obtain ⟨fB, hfB⟩ : ∃ fB, fB = (cut A, cut (ngP n B)) := ⟨_, rfl⟩
         rw [← hfB] at HV hfc
         rw [show frC (cut A) (cut (ngP n B)) = frC fB.1 fB.2 by rw [hfB]] at hcut
         have HPW := Lib.hid (fun W => powForm_any n g D fB j W hpr lD hdg hg2 hfc hj9)
         rw [← hcut] at HPW
         obtain ⟨Fa, hFa⟩ : ∃ Fa, Fa = (pgF (muF n D g) 64 j (oneP, fun _ => 0) fB).1 := ⟨_, rfl⟩
         obtain ⟨Fb, hFb⟩ : ∃ Fb, Fb = (pgF (muF n D g) 64 j (oneP, fun _ => 0) fB).2 := ⟨_, rfl⟩
         rw [← hFa, ← hFb] at HPW
         rw [show pgF (muF n D g) 64 j (oneP, fun _ => 0) fB = (Fa, Fb) by rw [hFa, hFb]] at HV
         have HUN := Lib.hid (fun W => unitForm_any W)
         have hmf : ∀ (fn : Fn) (first cap : Array Value) (w : World), (Instr.makeFunc fn first cap).run Try.prog w = .ok (.func fn first cap) w := fun _ _ _ _ => rfl
         clear hFa hFb hcut hfB hfc hR hc0 hpr lD hg2 hdg hf hdv hred hr
         have lt_B0 : (w.heap.size) < W6.heap.size := B0.lt
         have lt_B1 : (w.heap.size + 1) < W6.heap.size := B1.lt
         have lt_B2 : (w.heap.size + 1 + 1) < W6.heap.size := B2.lt
         have lt_B3 : (N1) < W6.heap.size := B3.lt
         have hbase : w.heap.size ≤ W6.heap.size := hb.size
         refine zq Try.mixed (by kernel_rfl) (by kernel_rfl) (fun v => by (simp only [frL, Act.put, pA, pB, pC, Nat.reduceAdd, Nat.zero_add]; exact rfl))
          (fun L v W7 => Below w.heap.size w W7 ∧ Kx [w.heap.size + 1 + 1] W6 W7 ∧ (∃ g : Array Value, g.size = 128 ∧ Row W7 (w.heap.size + 1 + 1) 55 (g)) ∧ (L 6 = false → Row W7 (w.heap.size + 1 + 1) 55 ((frC (fun _ => 0) (fun _ => 0)).toArray)) ∧ (L 6 = true → Row W7 (w.heap.size + 1 + 1) 55 ((frC Fa Fb).toArray)) ∧ VF L v [some (.agg (frC oneP (fun _ => 0)).toArray), some (.agg (frC A (ngP n B)).toArray), some (.int .i64 (j : Int)), some (.agg (fdC (n : Int) D).toArray), some (.func (.func 135) #[.agg (fdC (n : Int) D).toArray] #[]), some (.agg (frC Fa Fb).toArray), none, some (.int .i64 0)]) ?_ ?_ ?_
         · intro v hv0
           exact ⟨hb.drew, Kx.start _ _, ⟨_, by simp [frC_len], B2.drew⟩, (fun _ => B2.drew), (fun h => by cases h), VF.start⟩
         · refine (.cons rfl ?_ (.cons rfl ?_ (.cons rfl ?_ (.cons rfl ?_ (.cons rfl ?_ (.cons rfl ?_ (.cons rfl ?_ (.cons rfl ?_ (.nil _)))))))))
           all_goals intro L v W7 hd hn ⟨hB, hX, x2, q2, n2, V⟩ K hK
           · go_wp2_with (go_at_call 140; refine (HUN.out _).mono ?_; rintro e wy ⟨rfl, hy⟩)
             exact hK _ (.agg (frC oneP (fun _ => 0)).toArray) _ (by simp only [Act.put, pA, pB, pC ]) ⟨hB.trans (hy.mono hB.size), hX.below hy, (let ⟨g, hg, h⟩ := x2; ⟨g, hg, h.zw hy⟩), (fun h => (q2 h).below hy (q2 h).lt), (fun h => (n2 h).below hy (n2 h).lt), V.step 0 rfl⟩
           · refine wp_load_rowv 55 _ rfl _ rfl 55 _ (B1.kx hX (by simp <;> omega)) _ Try.underlying55 rfl 128 Try.size55 (by simp [frC_len]) ?_
             exact hK _ _ _ rfl ⟨hB, hX, x2, q2, n2, V.step 1 rfl⟩
           · go_wp2_with fail
             exact hK _ (.int .i64 (j : Int)) _ (by simp only [Act.put, pA, pB, pC ]) ⟨hB, hX, x2, q2, n2, V.step 2 rfl⟩
           · refine wp_load_rowv 107 _ rfl _ rfl 107 _ (B3.kx hX (by simp <;> omega)) _ Try.underlying107 rfl 65 Try.size107 (by simp [fdC_len]) ?_
             exact hK _ _ _ rfl ⟨hB, hX, x2, q2, n2, V.step 3 rfl⟩
           · have e3 := V.at (zdq hd 3 rfl) rfl
             go_wp2_with fail
             exact hK _ (.func (.func 135) #[.agg (fdC (n : Int) D).toArray] #[]) _ (by simp only [Act.put, pA, pB, pC, e3]) ⟨hB, hX, x2, q2, n2, V.step 4 rfl⟩
           · have e0 := V.at (zdq hd 0 rfl) rfl
             have e1 := V.at (zdq hd 1 rfl) rfl
             have e2 := V.at (zdq hd 2 rfl) rfl
             have e4 := V.at (zdq hd 4 rfl) rfl
             go_wp2_with (go_at_call 139; refine (HPW.out _).mono ?_; rintro e wy ⟨rfl, hy⟩)
             exact hK _ (.agg (frC Fa Fb).toArray) _ (by simp only [Act.put, pA, pB, pC, e0, e1, e2, e4]) ⟨hB.trans (hy.mono hB.size), hX.below hy, (let ⟨g, hg, h⟩ := x2; ⟨g, hg, h.zw hy⟩), (fun h => (q2 h).below hy (q2 h).lt), (fun h => (n2 h).below hy (n2 h).lt), V.step 5 rfl⟩
           · have e5 := V.at (zdq hd 5 rfl) rfl
             obtain ⟨gz, hgz, hk⟩ := x2
             refine wp_store_rowv 55 _ _ rfl _ rfl ((frC Fa Fb).toArray) e5 55 gz hk 128 Try.size55 hgz (by simp [frC_len]) (frC_all _ _) ?_
             exact hK _ undef _ rfl ⟨zr hB (by omega) _, hX.row (by simp) _, ⟨_, by simp [frC_len], hk.row _⟩, (fun h => absurd h (by simp [setL])), (fun _ => hk.row _), V.skip 6 rfl⟩
           · go_wp2_with fail
             exact hK _ (.int .i64 0) _ (by simp only [Act.put, pA, pB, pC ]) ⟨hB, hX, x2, q2, n2, V.step 7 rfl⟩
         · intro L v W7 hL ⟨hB, hX, x2, q2, n2, V⟩
           have r2 := n2 (hL 6 (by decide))
           have e0 := V.at (hL 0 (by decide)) rfl
           have e1 := V.at (hL 1 (by decide)) rfl
           have e2 := V.at (hL 2 (by decide)) rfl
           have e3 := V.at (hL 3 (by decide)) rfl
           have e4 := V.at (hL 4 (by decide)) rfl
           have e5 := V.at (hL 5 (by decide)) rfl
           have e7 := V.at (hL 7 (by decide)) rfl
           clear hL x2 q2 n2 V
           replace B0 := B0.kx hX (by simp <;> omega)
           replace B1 := B1.kx hX (by simp <;> omega)
           replace B3 := B3.kx hX (by simp <;> omega)
           clear hX
           simp only [Exit.then, e0, e1, e2, e3, e4, e5, e7]
           clear e0 e1 e2 e3 e4 e5 e7
           replace B2 := r2
           clear r2
           replace hb := hB
           clear hB
           clear hbase lt_B0 lt_B1 lt_B2 lt_B3
           go_wp2_with fail
           refine bodyPost_ret (results_rowt rfl _ _ _ _ _ rfl B2 _ Try.underlying55 rfl (by rw [Try.size55]; simp [frC_len])) rfl ⟨by first | (rw [HV.out]; rfl) | rw [HV.out], hb⟩
       · obtain ⟨j, rfl⟩ : ∃ j : Nat, k = (j : Int) := ⟨k.toNat, by omega⟩
         rw [pbF_p n A B hneg, show ((j : Int)).natAbs = j by omega] at HV
         go_upto_region 11 with (fail)
         have hR : fmR n D A (B) g := ⟨hf, hred⟩
         have hcut : frC A (B) = frC (cut A) (cut (B)) := frC_congr (fun i hi => (cut_in _ hi).symm) (fun i hi => (cut_in _ hi).symm)
         have hfc : fmC n D g (cut A, cut (B)) := ⟨cfx_cut _ _, fmR_cut (by omega) hR⟩
         have hj9 : (j : Int) ≤ 1000000000000 := by omega
         obtain ⟨fB, hfB⟩ : ∃ fB, fB = (cut A, cut (B)) := ⟨_, rfl⟩
         rw [← hfB] at HV hfc
         rw [show frC (cut A) (cut (B)) = frC fB.1 fB.2 by rw [hfB]] at hcut
         have HPW := Lib.hid (fun W => powForm_any n g D fB j W hpr lD hdg hg2 hfc hj9)
         rw [← hcut] at HPW
         obtain ⟨Fa, hFa⟩ : ∃ Fa, Fa = (pgF (muF n D g) 64 j (oneP, fun _ => 0) fB).1 := ⟨_, rfl⟩
         obtain ⟨Fb, hFb⟩ : ∃ Fb, Fb = (pgF (muF n D g) 64 j (oneP, fun _ => 0) fB).2 := ⟨_, rfl⟩
         rw [← hFa, ← hFb] at HPW
         rw [show pgF (muF n D g) 64 j (oneP, fun _ => 0) fB = (Fa, Fb) by rw [hFa, hFb]] at HV
         have HUN := Lib.hid (fun W => unitForm_any W)
         have hmf : ∀ (fn : Fn) (first cap : Array Value) (w : World), (Instr.makeFunc fn first cap).run Try.prog w = .ok (.func fn first cap) w := fun _ _ _ _ => rfl
         clear hFa hFb hcut hfB hfc hR hc0 hpr lD hg2 hdg hf hdv hred hr
         have lt_B0 : (w.heap.size) < W4.heap.size := B0.lt
         have lt_B1 : (w.heap.size + 1) < W4.heap.size := B1.lt
         have lt_B2 : (w.heap.size + 1 + 1) < W4.heap.size := B2.lt
         have lt_B3 : (N1) < W4.heap.size := B3.lt
         have hbase : w.heap.size ≤ W4.heap.size := hb.size
         refine zq Try.mixed (by kernel_rfl) (by kernel_rfl) (fun v => by (simp only [frL, Act.put, pA, pB, pC, Nat.reduceAdd, Nat.zero_add]; exact rfl))
          (fun L v W5 => Below w.heap.size w W5 ∧ Kx [w.heap.size + 1 + 1] W4 W5 ∧ (∃ g : Array Value, g.size = 128 ∧ Row W5 (w.heap.size + 1 + 1) 55 (g)) ∧ (L 6 = false → Row W5 (w.heap.size + 1 + 1) 55 ((frC (fun _ => 0) (fun _ => 0)).toArray)) ∧ (L 6 = true → Row W5 (w.heap.size + 1 + 1) 55 ((frC Fa Fb).toArray)) ∧ VF L v [some (.agg (frC oneP (fun _ => 0)).toArray), some (.agg (frC A B).toArray), some (.int .i64 (j : Int)), some (.agg (fdC (n : Int) D).toArray), some (.func (.func 135) #[.agg (fdC (n : Int) D).toArray] #[]), some (.agg (frC Fa Fb).toArray), none, some (.int .i64 0)]) ?_ ?_ ?_
         · intro v hv0
           exact ⟨hb.drew, Kx.start _ _, ⟨_, by simp [frC_len], B2.drew⟩, (fun _ => B2.drew), (fun h => by cases h), VF.start⟩
         · refine (.cons rfl ?_ (.cons rfl ?_ (.cons rfl ?_ (.cons rfl ?_ (.cons rfl ?_ (.cons rfl ?_ (.cons rfl ?_ (.cons rfl ?_ (.nil _)))))))))
           all_goals intro L v W5 hd hn ⟨hB, hX, x2, q2, n2, V⟩ K hK
           · go_wp2_with (go_at_call 140; refine (HUN.out _).mono ?_; rintro e wy ⟨rfl, hy⟩)
             exact hK _ (.agg (frC oneP (fun _ => 0)).toArray) _ (by simp only [Act.put, pA, pB, pC ]) ⟨hB.trans (hy.mono hB.size), hX.below hy, (let ⟨g, hg, h⟩ := x2; ⟨g, hg, h.zw hy⟩), (fun h => (q2 h).below hy (q2 h).lt), (fun h => (n2 h).below hy (n2 h).lt), V.step 0 rfl⟩
           · refine wp_load_rowv 55 _ rfl _ rfl 55 _ (B1.kx hX (by simp <;> omega)) _ Try.underlying55 rfl 128 Try.size55 (by simp [frC_len]) ?_
             exact hK _ _ _ rfl ⟨hB, hX, x2, q2, n2, V.step 1 rfl⟩
           · go_wp2_with fail
             exact hK _ (.int .i64 (j : Int)) _ (by simp only [Act.put, pA, pB, pC ]) ⟨hB, hX, x2, q2, n2, V.step 2 rfl⟩
           · refine wp_load_rowv 107 _ rfl _ rfl 107 _ (B3.kx hX (by simp <;> omega)) _ Try.underlying107 rfl 65 Try.size107 (by simp [fdC_len]) ?_
             exact hK _ _ _ rfl ⟨hB, hX, x2, q2, n2, V.step 3 rfl⟩
           · have e3 := V.at (zdq hd 3 rfl) rfl
             go_wp2_with fail
             exact hK _ (.func (.func 135) #[.agg (fdC (n : Int) D).toArray] #[]) _ (by simp only [Act.put, pA, pB, pC, e3]) ⟨hB, hX, x2, q2, n2, V.step 4 rfl⟩
           · have e0 := V.at (zdq hd 0 rfl) rfl
             have e1 := V.at (zdq hd 1 rfl) rfl
             have e2 := V.at (zdq hd 2 rfl) rfl
             have e4 := V.at (zdq hd 4 rfl) rfl
             go_wp2_with (go_at_call 139; refine (HPW.out _).mono ?_; rintro e wy ⟨rfl, hy⟩)
             exact hK _ (.agg (frC Fa Fb).toArray) _ (by simp only [Act.put, pA, pB, pC, e0, e1, e2, e4]) ⟨hB.trans (hy.mono hB.size), hX.below hy, (let ⟨g, hg, h⟩ := x2; ⟨g, hg, h.zw hy⟩), (fun h => (q2 h).below hy (q2 h).lt), (fun h => (n2 h).below hy (n2 h).lt), V.step 5 rfl⟩
           · have e5 := V.at (zdq hd 5 rfl) rfl
             obtain ⟨gz, hgz, hk⟩ := x2
             refine wp_store_rowv 55 _ _ rfl _ rfl ((frC Fa Fb).toArray) e5 55 gz hk 128 Try.size55 hgz (by simp [frC_len]) (frC_all _ _) ?_
             exact hK _ undef _ rfl ⟨zr hB (by omega) _, hX.row (by simp) _, ⟨_, by simp [frC_len], hk.row _⟩, (fun h => absurd h (by simp [setL])), (fun _ => hk.row _), V.skip 6 rfl⟩
           · go_wp2_with fail
             exact hK _ (.int .i64 0) _ (by simp only [Act.put, pA, pB, pC ]) ⟨hB, hX, x2, q2, n2, V.step 7 rfl⟩
         · intro L v W5 hL ⟨hB, hX, x2, q2, n2, V⟩
           have r2 := n2 (hL 6 (by decide))
           have e0 := V.at (hL 0 (by decide)) rfl
           have e1 := V.at (hL 1 (by decide)) rfl
           have e2 := V.at (hL 2 (by decide)) rfl
           have e3 := V.at (hL 3 (by decide)) rfl
           have e4 := V.at (hL 4 (by decide)) rfl
           have e5 := V.at (hL 5 (by decide)) rfl
           have e7 := V.at (hL 7 (by decide)) rfl
           clear hL x2 q2 n2 V
           replace B0 := B0.kx hX (by simp <;> omega)
           replace B1 := B1.kx hX (by simp <;> omega)
           replace B3 := B3.kx hX (by simp <;> omega)
           clear hX
           simp only [Exit.then, e0, e1, e2, e3, e4, e5, e7]
           clear e0 e1 e2 e3 e4 e5 e7
           replace B2 := r2
           clear r2
           replace hb := hB
           clear hB
           clear hbase lt_B0 lt_B1 lt_B2 lt_B3
           go_wp2_with fail
           refine bodyPost_ret (results_rowt rfl _ _ _ _ _ rfl B2 _ Try.underlying55 rfl (by rw [Try.size55]; simp [frC_len])) rfl ⟨by first | (rw [HV.out]; rfl) | rw [HV.out], hb⟩
     · have HV := Lib.hid (pfV_5 hc0 hr (by rw [hdv]; show ¬ deg A ≤ (g : Int); omega))
       have HR1 := Lib.hid (fun W => isReduced_any (n : Int) g D A B W hdg)
       rw [show decide (deg A ≤ (g : Int)) = false by simpa using hred] at HR1
       go_upto_region 6 with (fail)
       have lt_B0 := B0.lt
       have lt_B1 := B1.lt
       have lt_B2 := B2.lt
       go_upto_region 7 with (first | rw [← z64] | rw [← cvC_zero] | (refine zla (.tmp 5) B0 Try.underlying23 Try.size23 ?_) | (refine wpList_store_rowv rfl 107 (.tmp 11) (.tmp 30) rfl _ rfl (fdC (n : Int) D).toArray rfl 107 _ ((Row.new W2 107 (fdC 0 (fun _ => 0)).toArray)) 65 Try.size107 (by simp [fdC_len]) (by simp [fdC_len]) (fdC_all _ _) ?_; try simp only [Act.put]) | (refine zbo rfl 107 _ rfl (fdC (n : Int) D).toArray (by rw [Array.toList_map]; exact built_cv _ _) ?_))
       have lt_B0 := B0.lt
       have lt_B1 := B1.lt
       have lt_B2 := B2.lt
       have lhb := hb.size
       obtain ⟨W3, hwo, hzQ⟩ : ∃ v : World, v = ((W2.alloc (.cells (fdC 0 (fun _ => 0)).toArray 107)).setRow (W2.heap.size) (fdC (n : Int) D).toArray) ∧ Blk v (w.heap.size) 64 23 (D) ∧ Row v (w.heap.size + 1) 55 (frC A B).toArray ∧ Row v (w.heap.size + 1 + 1) 55 (frC (fun _ => 0) (fun _ => 0)).toArray ∧ Row v (W2.heap.size) 107 (fdC (n : Int) D).toArray ∧ Below w.heap.size w v := ⟨_, rfl, ((B0.alloc (.cells (fdC 0 (fun _ => 0)).toArray 107)).rowOther (by omega)), ((B1.alloc (.cells (fdC 0 (fun _ => 0)).toArray 107)).rowOther (by omega)), ((B2.alloc (.cells (fdC 0 (fun _ => 0)).toArray 107)).rowOther (by omega)), ((Row.new W2 107 (fdC 0 (fun _ => 0)).toArray).row (fdC (n : Int) D).toArray), (zr (hb.alloc (by have := hb.size; simp; omega) (.cells (fdC 0 (fun _ => 0)).toArray 107)) (by omega) _)⟩
       rw [← hwo]
       clear hwo B0 B1 B2 hb
       obtain ⟨B0, B1, B2, B3, hb⟩ := hzQ
       obtain ⟨N1, hNN⟩ : ∃ n : Nat, n = W2.heap.size := ⟨_, rfl⟩
       rw [← hNN] at lt_B0 lt_B1 lt_B2 lhb B3 ⊢
       clear hNN
       have zN1_0 := lt_B0
       have zN1_1 := lt_B1
       have zN1_2 := lt_B2
       have zN1 := lhb
       clear lt_B0 lt_B1 lt_B2 lhb
       try simp only [Act.put, pA, pB, pC]
       go_upto_region 8 with (first | (refine zlr rfl 107 (.tmp 11) rfl _ rfl 107 (fdC (n : Int) D).toArray (B3) _ Try.underlying107 rfl 65 Try.size107 (by simp [fdC_len]) ?_) | (refine zlr rfl 55 (.tmp 6) rfl _ rfl 55 (frC A B).toArray (B1) _ Try.underlying55 rfl 128 Try.size55 (by simp [frC_len]) ?_) | (go_at_call 134; refine (HR1.out _).mono ?_; rintro e W4 ⟨rfl, hW4⟩; replace B0 := B0.zw hW4; replace B1 := B1.zw hW4; replace B2 := B2.zw hW4; replace B3 := B3.zw hW4; replace hb := (hb).trans (hW4.mono (hb).size)))
       clear hc0 hpr lD hg2 hdg hf hdv
       have lt_B0 := B0.lt
       have lt_B1 := B1.lt
       have lt_B2 := B2.lt
       have lt_B3 := B3.lt
       go_wp2_with (first | rw [← z64] | rw [← frC_zero] | (refine wpList_store_rowv rfl 55 (.tmp 8) (.tmp 35) rfl _ rfl (frC (fun _ => 0) (fun _ => 0)).toArray rfl 55 _ (B2) 128 Try.size55 (by simp [frC_len]) (by simp [frC_len]) (frC_all _ _) ?_; try simp only [Act.put]; go_wp2_with fail))
       obtain ⟨W5, hwo, hzQ⟩ : ∃ v : World, v = (W4.setRow (w.heap.size + 1 + 1) (frC (fun _ => 0) (fun _ => 0)).toArray) ∧ Blk v (w.heap.size) 64 23 (D) ∧ Row v (w.heap.size + 1) 55 (frC A B).toArray ∧ Row v (w.heap.size + 1 + 1) 55 (frC (fun _ => 0) (fun _ => 0)).toArray ∧ Row v (N1) 107 (fdC (n : Int) D).toArray ∧ Below w.heap.size w v := ⟨_, rfl, (B0.rowOther (by omega)), (B1.rowOther (by omega)), (B2.row (frC (fun _ => 0) (fun _ => 0)).toArray), (B3.rowOther (by omega)), (zr hb (by omega) _)⟩
       rw [← hwo]
       clear hwo B0 B1 B2 B3 hb
       obtain ⟨B0, B1, B2, B3, hb⟩ := hzQ
       try simp only [Act.put, pA, pB, pC]
       refine bodyPost_ret (results_rowt rfl _ _ _ _ _ rfl B2 _ Try.underlying55 rfl (by rw [Try.size55]; simp [frC_len])) rfl ⟨by first | (rw [HV.out]; rfl) | rw [HV.out], hb⟩
   · have HV := Lib.hid (pfV_2 hc0 hr)
     clear hc0 hpr lD hg2 hdg hf hdv
     by_cases h1 : k < -1000000000000
     · clear hr
       go_upto_region 5 with (fail)
       have lt_B0 := B0.lt
       have lt_B1 := B1.lt
       have lt_B2 := B2.lt
       go_wp2_with (first | rw [← z64] | rw [← frC_zero] | (refine wpList_store_rowv rfl 55 (.tmp 8) (.tmp 27) rfl _ rfl (frC (fun _ => 0) (fun _ => 0)).toArray rfl 55 _ (B2) 128 Try.size55 (by simp [frC_len]) (by simp [frC_len]) (frC_all _ _) ?_; try simp only [Act.put]; go_wp2_with fail))
       obtain ⟨W3, hwo, hzQ⟩ : ∃ v : World, v = (W2.setRow (w.heap.size + 1 + 1) (frC (fun _ => 0) (fun _ => 0)).toArray) ∧ Blk v (w.heap.size) 64 23 (D) ∧ Row v (w.heap.size + 1) 55 (frC A B).toArray ∧ Row v (w.heap.size + 1 + 1) 55 (frC (fun _ => 0) (fun _ => 0)).toArray ∧ Below w.heap.size w v := ⟨_, rfl, (B0.rowOther (by omega)), (B1.rowOther (by omega)), (B2.row (frC (fun _ => 0) (fun _ => 0)).toArray), (zr hb (by omega) _)⟩
       rw [← hwo]
       clear hwo B0 B1 B2 hb
       obtain ⟨B0, B1, B2, hb⟩ := hzQ
       try simp only [Act.put, pA, pB, pC]
       refine bodyPost_ret (results_rowt rfl _ _ _ _ _ rfl B2 _ Try.underlying55 rfl (by rw [Try.size55]; simp [frC_len])) rfl ⟨by first | (rw [HV.out]; rfl) | rw [HV.out], hb⟩
     · have h2 : 1000000000000 < k := by omega
       clear hr
       go_upto_region 5 with (fail)
       have lt_B0 := B0.lt
       have lt_B1 := B1.lt
       have lt_B2 := B2.lt
       go_wp2_with (first | rw [← z64] | rw [← frC_zero] | (refine wpList_store_rowv rfl 55 (.tmp 8) (.tmp 27) rfl _ rfl (frC (fun _ => 0) (fun _ => 0)).toArray rfl 55 _ (B2) 128 Try.size55 (by simp [frC_len]) (by simp [frC_len]) (frC_all _ _) ?_; try simp only [Act.put]; go_wp2_with fail))
       obtain ⟨W3, hwo, hzQ⟩ : ∃ v : World, v = (W2.setRow (w.heap.size + 1 + 1) (frC (fun _ => 0) (fun _ => 0)).toArray) ∧ Blk v (w.heap.size) 64 23 (D) ∧ Row v (w.heap.size + 1) 55 (frC A B).toArray ∧ Row v (w.heap.size + 1 + 1) 55 (frC (fun _ => 0) (fun _ => 0)).toArray ∧ Below w.heap.size w v := ⟨_, rfl, (B0.rowOther (by omega)), (B1.rowOther (by omega)), (B2.row (frC (fun _ => 0) (fun _ => 0)).toArray), (zr hb (by omega) _)⟩
       rw [← hwo]
       clear hwo B0 B1 B2 hb
       obtain ⟨B0, B1, B2, hb⟩ := hzQ
       try simp only [Act.put, pA, pB, pC]
       refine bodyPost_ret (results_rowt rfl _ _ _ _ _ rfl B2 _ Try.underlying55 rfl (by rw [Try.size55]; simp [frC_len])) rfl ⟨by first | (rw [HV.out]; rfl) | rw [HV.out], hb⟩
 · have HV := Lib.hid (pfV_1 (k := k) hc)
   go_upto_region 3 with (first | (refine zla (.tmp 5) B0 Try.underlying23 Try.size23 ?_) | (refine zlr rfl 55 (.tmp 6) rfl _ rfl 55 (frC A B).toArray (B1) _ Try.underlying55 rfl 128 Try.size55 (by simp [frC_len]) ?_) | (go_at_call 129; refine (checkForms_any p D hD [(A, B)] (by simp [hA, hB]) (by simp) _ _ hps).mono ?_; rintro e W2 ⟨rfl, hW2⟩; replace B0 := B0.zw hW2; replace B1 := B1.zw hW2; replace B2 := B2.zw hW2; replace hb := (hb).trans (hW2.mono (hb).size); rw [hc]) | (refine wpList_build_frs rfl 61 _ [(A, B)] rfl 55 Try.underlying61 Try.elem55 (by simp) (by simp) rfl ?_; intro wa hps hba; replace B0 := B0.zw hba; replace B1 := B1.zw hba; replace B2 := B2.zw hba; replace hb := hb.trans (hba.mono hb.size)))
   clear hc
   have lt_B0 := B0.lt
   have lt_B1 := B1.lt
   have lt_B2 := B2.lt
   go_wp2_with (first | rw [← z64] | rw [← frC_zero] | (refine wpList_store_rowv rfl 55 (.tmp 8) (.tmp 19) rfl _ rfl (frC (fun _ => 0) (fun _ => 0)).toArray rfl 55 _ (B2) 128 Try.size55 (by simp [frC_len]) (by simp [frC_len]) (frC_all _ _) ?_; try simp only [Act.put]; go_wp2_with fail))
   obtain ⟨W3, hwo, hzQ⟩ : ∃ v : World, v = (W2.setRow (w.heap.size + 1 + 1) (frC (fun _ => 0) (fun _ => 0)).toArray) ∧ Blk v (w.heap.size) 64 23 (D) ∧ Row v (w.heap.size + 1) 55 (frC A B).toArray ∧ Row v (w.heap.size + 1 + 1) 55 (frC (fun _ => 0) (fun _ => 0)).toArray ∧ Below w.heap.size w v := ⟨_, rfl, (B0.rowOther (by omega)), (B1.rowOther (by omega)), (B2.row (frC (fun _ => 0) (fun _ => 0)).toArray), (zr hb (by omega) _)⟩
   rw [← hwo]
   clear hwo B0 B1 B2 hb
   obtain ⟨B0, B1, B2, hb⟩ := hzQ
   try simp only [Act.put, pA, pB, pC]
   refine bodyPost_ret (results_rowt rfl _ _ _ _ _ rfl B2 _ Try.underlying55 rfl (by rw [Try.size55]; simp [frC_len])) rfl ⟨by first | (rw [HV.out]; rfl) | rw [HV.out], hb⟩
set_option maxRecDepth 100000 in
set_option maxHeartbeats 9000000 in
theorem spec_PowerOfForm_any (p : Int) (D A B : Nat → Nat) (k : Int) (hD : byte D) (hA : byte A) (hB : byte B) (w : World) :
 Calls Try.prog 76 #[.int .i64 p, .agg (zb 64 D), .agg (frC A B).toArray, .int .i64 k] w fun e w' => e = .returned (.tuple #[.agg (frC (pfV p D A B k).1.1 (pfV p D A B k).1.2).toArray, .int .i64 (pfV p D A B k).2]) ∧ Below w.heap.size w w' := by
 have HDC := Lib.hid (fun W => l07Is_any p D hD W)
 go_enter Try.func76, Try.ntmps76
 go_upto_region 1 with (fail)
 rw [← frC_zero]
 obtain ⟨W1, hwo⟩ : ∃ v : World, v = (((w.alloc (.cells (zb 64 (D)) 23)).alloc (.cells (frC A B).toArray 55)).alloc (.cells (frC (fun _ => 0) (fun _ => 0)).toArray 55)) := ⟨_, rfl⟩
 have B0 : Blk W1 (w.heap.size) 64 23 (D) := by subst hwo; have := (((Blk.new w 64 23 (D)).alloc (.cells (frC A B).toArray 55)).alloc (.cells (frC (fun _ => 0) (fun _ => 0)).toArray 55)); simpa using this
 have B1 : Row W1 (w.heap.size + 1) 55 (frC A B).toArray := by subst hwo; have := ((Row.new (w.alloc (.cells (zb 64 (D)) 23)) 55 (frC A B).toArray).alloc (.cells (frC (fun _ => 0) (fun _ => 0)).toArray 55)); simpa using this
 have B2 : Row W1 (w.heap.size + 1 + 1) 55 (frC (fun _ => 0) (fun _ => 0)).toArray := by subst hwo; have := (Row.new ((w.alloc (.cells (zb 64 (D)) 23)).alloc (.cells (frC A B).toArray 55)) 55 (frC (fun _ => 0) (fun _ => 0)).toArray); simpa using this
 have hb : Below w.heap.size w W1 := by subst hwo; exact ((((Below.refl _ _).alloc (Nat.le_refl _) _).alloc (by simp) _).alloc (by simp; omega) _)
 rw [← hwo]
 clear hwo
 rcases ckF_two p D [(A, B)] with hc | hc
 · have hc0 := hc
   obtain ⟨n, g, rfl, hpr, lD, hg2, hdg, hall⟩ := ckF_fm hc (A := A) (B := B) (by simp)
   have hf := hall (A, B) (by simp)
   dsimp only at hf
   clear hall
   have hdv : deg D / 2 = (g : Int) := by omega
   obtain ⟨hdc, hfa⟩ := ckF_zero hc
   have hfm := hfa (A, B) (by simp)
   dsimp only at hfm
   rw [hdc] at HDC
   have HFM := Lib.hid (fun W => l07Form_any n D A B W hpr lD hA hB)
   rw [hfm] at HFM
   clear hdc hfa hfm
   go_upto_region 3 with (first | (refine zla (.tmp 5) B0 Try.underlying23 Try.size23 ?_) | (go_at_call 124; refine (HDC.out _).mono ?_; rintro e W2 ⟨rfl, hW2⟩; replace B0 := B0.zw hW2; replace B1 := B1.zw hW2; replace B2 := B2.zw hW2; replace hb := (hb).trans (hW2.mono (hb).size)) | (refine zlg rfl 23 (.tmp 5) rfl _ rfl 64 23 _ (B0) _ Try.underlying23 rfl Try.size23 ?_) | (refine wpList_load_rowv_g rfl 55 (.tmp 6) rfl _ rfl 55 (frC A B).toArray (B1) _ Try.underlying55 rfl 128 Try.size55 (by simp [frC_len]) ?_) | (go_at_call 125; refine (HFM.out _).mono ?_; rintro e W3 ⟨rfl, hW3⟩; replace B0 := B0.zw hW3; replace B1 := B1.zw hW3; replace B2 := B2.zw hW3; replace hb := (hb).trans (hW3.mono (hb).size)))
   clear HDC HFM
   clear hc
   by_cases hr : -1000000000000 ≤ k ∧ k ≤ 1000000000000
   · have hr1 := hr.1
     have hr2 := hr.2
     by_cases hred : deg A ≤ (g : Int)
     · have HV := Lib.hid (pfV_0 hc0 hr (by rw [hdv]; exact hred) hdg)
       go_upto_region 5 with (first | (go_at_call 89; refine (l01In_any _ _ _ _).mono ?_; rintro e wS ⟨rfl, rfl⟩; rw [show decide ((-1000000000000 : Int) ≤ k ∧ k ≤ 1000000000000) = true by simp; omega]))
       have hc2 : ckR (n : Int) D [(A, B)] = 0 := ckR_0 hc0 (fun i F hF => by
        rw [hdv]
        match i, hF with
        | 0, hF => cases hF; exact hred)
       go_upto_region 8 with (first | (refine zla (.tmp 5) B0 Try.underlying23 Try.size23 ?_) | (refine zlr rfl 55 (.tmp 6) rfl _ rfl 55 (frC A B).toArray (B1) _ Try.underlying55 rfl 128 Try.size55 (by simp [frC_len]) ?_) | (go_at_call 127; refine (l07Code_red (n : Int) D hD [(A, B)] (by simp [hA, hB]) (by simp) _ _ hps).mono ?_; rintro e W4 ⟨rfl, hW4⟩; replace B0 := B0.zw hW4; replace B1 := B1.zw hW4; replace B2 := B2.zw hW4; replace hb := (hb).trans (hW4.mono (hb).size); rw [hc2]) | (refine wpList_build_frs rfl 61 _ [(A, B)] rfl 55 Try.underlying61 Try.elem55 (by simp) (by simp) rfl ?_; intro wa hps hba; replace B0 := B0.zw hba; replace B1 := B1.zw hba; replace B2 := B2.zw hba; replace hb := hb.trans (hba.mono hb.size)))
       by_cases hneg : k < 0
       · obtain ⟨j, rfl⟩ : ∃ j : Nat, k = -(j : Int) := ⟨(-k).toNat, by omega⟩
         rw [pbF_n n A B hneg, show (-(j : Int)).natAbs = j by omega] at HV
         have HOP := Lib.hid (show ∀ W, Calls Try.prog 136 #[.int .i64 (n : Int), .agg (zb 64 B), .agg (zb 64 A)] W fun e w' => e = .returned (.agg (zb 64 (ngP n B))) ∧ Below W.heap.size W w' from fun W => by
          have := l07Opposite_any n B A W hpr hf.2.1 hf.1 (fmI_deg hf).1
          rw [zbc (ng_small (by omega) hf.2.1 hf.2.2.2.1)] at this; exact this)
         go_upto_region 9 with (fail)
         have lt_B0 := B0.lt
         have lt_B1 := B1.lt
         have lt_B2 := B2.lt
         go_upto_region 10 with (first | rw [← z64] | (refine wpList_load_mid rfl 23 (.tmp 40) rfl _ 64 rfl (bl 64 B) _ (B1.frb) Try.underlying23 rfl (by rw [zl]; exact Try.size23) ?_) | (refine wpList_load_mid rfl 23 (.tmp 42) rfl _ 0 rfl (bl 64 A) _ (B1.fra) Try.underlying23 rfl (by rw [zl]; exact Try.size23) ?_) | (go_at_call 136; refine (HOP.out _).mono ?_; rintro e W5 ⟨rfl, hW5⟩; replace B0 := B0.zw hW5; replace B1 := B1.zw hW5; replace B2 := B2.zw hW5; replace hb := (hb).trans (hW5.mono (hb).size)) | (refine wpList_store_part rfl 23 (.tmp 45) (.tmp 44) rfl _ 64 (ngP n B) rfl rfl 55 _ (frC A (ngP n B)).toArray (B1) (frC_b _ _ _) (by first | decide | simp [frC_len]) Try.size23 ?_; try simp only [Act.put]))
         obtain ⟨W6, hwo, hzQ⟩ : ∃ v : World, v = (W5.setRow (w.heap.size + 1) (frC A (ngP n B)).toArray) ∧ Blk v (w.heap.size) 64 23 (D) ∧ Row v (w.heap.size + 1) 55 (frC A (ngP n B)).toArray ∧ Row v (w.heap.size + 1 + 1) 55 (frC (fun _ => 0) (fun _ => 0)).toArray ∧ Below w.heap.size w v := ⟨_, rfl, (B0.rowOther (by omega)), (B1.row (frC A (ngP n B)).toArray), (B2.rowOther (by omega)), (zr hb (by omega) _)⟩
         rw [← hwo]
         clear hwo B0 B1 B2 hb
         obtain ⟨B0, B1, B2, hb⟩ := hzQ
         try simp only [Act.put, pA, pB, pC]
         go_upto_region 11 with (fail)
         have hR : fmR n D A (ngP n B) g := ng_form hpr ⟨hf, hred⟩
         have hcut : frC A (ngP n B) = frC (cut A) (cut (ngP n B)) := frC_congr (fun i hi => (cut_in _ hi).symm) (fun i hi => (cut_in _ hi).symm)
         have hfc : fmC n D g (cut A, cut (ngP n B)) := ⟨cfx_cut _ _, fmR_cut (by omega) hR⟩
         have hj9 : (j : Int) ≤ 1000000000000 := by omega
         obtain ⟨fB, hfB⟩ : ∃ fB, fB = (cut A, cut (ngP n B)) := ⟨_, rfl⟩
         rw [← hfB] at HV hfc
         rw [show frC (cut A) (cut (ngP n B)) = frC fB.1 fB.2 by rw [hfB]] at hcut
         have HCP := Lib.hid (fun F G (hF : fmC n D g F) (hG : fmC n D g G) W => l07Compose_mu n g D F G W hpr lD hdg hg2 hF hG)
         have HMU := Lib.hid (fun F G (hF : fmC n D g F) (hG : fmC n D g G) => muF_ok hpr lD hdg hg2 hF hG)
         have HCU := Lib.hid hcut
         have HU0 := Lib.hid (show fmC n D g (oneP, fun _ => 0) from ⟨cfx_one, unit_form (by omega)⟩)
         have HF0 := Lib.hid hfc
         clear hcut hfB hfc hR hc0 hpr lD hg2 hdg hf hdv hred hr
         have lt_B0 := B0.lt
         have lt_B1 := B1.lt
         have lt_B2 := B2.lt
         go_upto_region 99 with (first | rw [← z64] | rw [← frC_zero] | (go_at_call 138; refine (l07Unit_any _).mono ?_; rintro e W7 ⟨rfl, hW7⟩; replace B0 := B0.zw hW7; replace B1 := B1.zw hW7; replace B2 := B2.zw hW7; replace hb := (hb).trans (hW7.mono (hb).size)) | (refine wpList_store_rowv rfl 55 (.tmp 11) (.tmp 48) rfl _ rfl (frC oneP (fun _ => 0)).toArray rfl 55 _ ((Row.new W7 55 (frC (fun _ => 0) (fun _ => 0)).toArray)) 128 Try.size55 (by simp [frC_len]) (by simp [frC_len]) (frC_all _ _) ?_; try simp only [Act.put]))
         have lt_B0 := B0.lt
         have lt_B1 := B1.lt
         have lt_B2 := B2.lt
         have lhb := hb.size
         obtain ⟨W8, hwo, hzQ⟩ : ∃ v : World, v = ((W7.alloc (.cells (frC (fun _ => 0) (fun _ => 0)).toArray 55)).setRow (W7.heap.size) (frC oneP (fun _ => 0)).toArray) ∧ Blk v (w.heap.size) 64 23 (D) ∧ Row v (w.heap.size + 1) 55 (frC A (ngP n B)).toArray ∧ Row v (w.heap.size + 1 + 1) 55 (frC (fun _ => 0) (fun _ => 0)).toArray ∧ Row v (W7.heap.size) 55 (frC oneP (fun _ => 0)).toArray ∧ Below w.heap.size w v := ⟨_, rfl, ((B0.alloc (.cells (frC (fun _ => 0) (fun _ => 0)).toArray 55)).rowOther (by omega)), ((B1.alloc (.cells (frC (fun _ => 0) (fun _ => 0)).toArray 55)).rowOther (by omega)), ((B2.alloc (.cells (frC (fun _ => 0) (fun _ => 0)).toArray 55)).rowOther (by omega)), ((Row.new W7 55 (frC (fun _ => 0) (fun _ => 0)).toArray).row (frC oneP (fun _ => 0)).toArray), (zr (hb.alloc (by have := hb.size; simp; omega) (.cells (frC (fun _ => 0) (fun _ => 0)).toArray 55)) (by omega) _)⟩
         rw [← hwo]
         clear hwo B0 B1 B2 hb
         obtain ⟨B0, B1, B2, B3, hb⟩ := hzQ
         obtain ⟨N1, hNN⟩ : ∃ n : Nat, n = W7.heap.size := ⟨_, rfl⟩
         rw [← hNN] at lt_B0 lt_B1 lt_B2 lhb B3 ⊢
         clear hNN
         have zN1_0 := lt_B0
         have zN1_1 := lt_B1
         have zN1_2 := lt_B2
         have zN1 := lhb
         clear lt_B0 lt_B1 lt_B2 lhb
         try simp only [Act.put, pA, pB, pC]
         go_loopw [3] (fun i wr => ∃ (q k : Nat) (po ps : ((Nat → Nat) × (Nat → Nat))), Hid (pgF (muF n D g) 64 j (oneP, fun _ => 0) fB = pgF (muF n D g) q k po ps) ∧ k < 2 ^ q ∧ (k : Int) ≤ 1000000000000 ∧ Hid (fmC n D g po ∧ fmC n D g ps) ∧ i = .int .i64 (k : Int) ∧ Below w.heap.size w wr ∧ Blk wr (w.heap.size) 64 23 D ∧ Row wr (w.heap.size + 1) 55 (frC ps.1 ps.2).toArray ∧ Row wr (w.heap.size + 1 + 1) 55 (frC (fun _ => 0) (fun _ => 0)).toArray ∧ Row wr (N1) 55 (frC po.1 po.2).toArray) (fun i _ => (intOf i).toNat)
         case atStart => exact ⟨64, j, _, _, Lib.hid rfl, (by have h6 : (1000000000000 : Nat) < 2 ^ 64 := (by decide); omega), hj9, Lib.hid ⟨HU0.out, HF0.out⟩, rfl, hb, B0, by rw [← HCU.out]; exact B1, B2, B3⟩
         case round =>
          clear hb B0 B1 B2 B3
          obtain ⟨q, k, po, ps, hP, hkq, hk, hI, rfl, hb, B0, B1, B2, B3⟩ := hrel
          have HKQ := Lib.hid hkq
          clear hkq
          by_cases hz : k = 0
          · subst hz
            have HV2 := Lib.hid (hP.out.trans pgF_z)
            go_upto_region 17 with (fail)
            have lt_B0 := B0.lt
            have lt_B1 := B1.lt
            have lt_B2 := B2.lt
            have lt_B3 := B3.lt
            go_wp2_with (first | rw [← z64] | (refine zlr rfl 55 (.tmp 11) rfl _ rfl 55 (frC po.1 po.2).toArray (B3) _ Try.underlying55 rfl 128 Try.size55 (by simp [frC_len]) ?_) | (refine wpList_store_rowv rfl 55 (.tmp 8) (.tmp 66) rfl _ rfl (frC po.1 po.2).toArray rfl 55 _ (B2) 128 Try.size55 (by simp [frC_len]) (by simp [frC_len]) (frC_all _ _) ?_; try simp only [Act.put]; go_wp2_with fail))
            obtain ⟨W9, hwo, hzQ⟩ : ∃ v : World, v = (wr.setRow (w.heap.size + 1 + 1) (frC po.1 po.2).toArray) ∧ Blk v (w.heap.size) 64 23 (D) ∧ Row v (w.heap.size + 1) 55 (frC ps.1 ps.2).toArray ∧ Row v (w.heap.size + 1 + 1) 55 (frC po.1 po.2).toArray ∧ Row v (N1) 55 (frC po.1 po.2).toArray ∧ Below w.heap.size w v := ⟨_, rfl, (B0.rowOther (by omega)), (B1.rowOther (by omega)), (B2.row (frC po.1 po.2).toArray), (B3.rowOther (by omega)), (zr hb (by omega) _)⟩
            rw [← hwo]
            clear hwo B0 B1 B2 B3 hb
            obtain ⟨B0, B1, B2, B3, hb⟩ := hzQ
            try simp only [Act.put, pA, pB, pC]
            refine bodyPost_ret (results_rowt rfl _ _ _ _ _ rfl B2 _ Try.underlying55 rfl (by rw [Try.size55]; simp [frC_len])) rfl ⟨by rw [HV.out, HV2.out]; first | rfl | skip, hb⟩
          · obtain ⟨q, rfl⟩ : ∃ t, q = t + 1 := ⟨q - 1, by have h1 := HKQ.out; have h2 : q ≠ 0 := (by intro h; rw [h, Nat.pow_zero] at h1; omega); omega⟩
            have hpos : (0 : Int) < (k : Int) := by omega
            have hq : 0 ≤ (k : Int) / 2 := by omega
            have hq2 : ((k : Int).tdiv 2) = (k : Int) / 2 := by rw [Int.tdiv_eq_ediv_of_nonneg (by omega)]
            by_cases hodd : k % 2 = 1
            · have hb1 : (((k : Int) % 2) == 1) = true := beq_iff_eq.2 (by omega)
              have hb2 : (((k : Int).tmod 2) == 1) = true := by rw [Int.tmod_eq_emod_of_nonneg (by omega)]; exact hb1
              have HV2 := Lib.hid (hP.out.trans (pgF_odd hz hodd))
              have HDd := Lib.hid (show k / 2 < 2 ^ q by have := HKQ.out; rw [Nat.pow_succ] at this; omega)
              have HI2 := Lib.hid (show fmC n D g (muF n D g po ps) ∧ fmC n D g (muF n D g ps ps) from ⟨HMU.out po ps hI.out.1 hI.out.2, HMU.out ps ps hI.out.2 hI.out.2⟩)
              have HC1 := Lib.hid (HCP.out po ps hI.out.1 hI.out.2)
              have HC2 := Lib.hid (HCP.out ps ps hI.out.2 hI.out.2)
              clear hodd hz hP hI
              go_upto_region 15 with (fail)
              clear hb1 hb2
              have lt_B0 := B0.lt
              have lt_B1 := B1.lt
              have lt_B2 := B2.lt
              have lt_B3 := B3.lt
              go_upto_region 16 with (first | rw [← z64] | (refine zla (.tmp 5) B0 Try.underlying23 Try.size23 ?_) | (refine zlr rfl 55 (.tmp 11) rfl _ rfl 55 (frC po.1 po.2).toArray (B3) _ Try.underlying55 rfl 128 Try.size55 (by simp [frC_len]) ?_) | (refine zlr rfl 55 (.tmp 6) rfl _ rfl 55 (frC ps.1 ps.2).toArray (B1) _ Try.underlying55 rfl 128 Try.size55 (by simp [frC_len]) ?_) | (go_at_call 133; refine (HC1.out _).mono ?_; rintro e W9 ⟨rfl, hW9⟩; replace B0 := B0.zw hW9; replace B1 := B1.zw hW9; replace B2 := B2.zw hW9; replace B3 := B3.zw hW9; replace hb := (hb).trans (hW9.mono (hb).size)) | (refine wpList_store_rowv rfl 55 (.tmp 11) (.tmp 60) rfl _ rfl (frC (muF n D g po ps).1 (muF n D g po ps).2).toArray rfl 55 _ (B3) 128 Try.size55 (by simp [frC_len]) (by simp [frC_len]) (frC_all _ _) ?_; try simp only [Act.put]))
              obtain ⟨W10, hwo, hzQ⟩ : ∃ v : World, v = (W9.setRow (N1) (frC (muF n D g po ps).1 (muF n D g po ps).2).toArray) ∧ Blk v (w.heap.size) 64 23 (D) ∧ Row v (w.heap.size + 1) 55 (frC ps.1 ps.2).toArray ∧ Row v (w.heap.size + 1 + 1) 55 (frC (fun _ => 0) (fun _ => 0)).toArray ∧ Row v (N1) 55 (frC (muF n D g po ps).1 (muF n D g po ps).2).toArray ∧ Below w.heap.size w v := ⟨_, rfl, (B0.rowOther (by omega)), (B1.rowOther (by omega)), (B2.rowOther (by omega)), (B3.row (frC (muF n D g po ps).1 (muF n D g po ps).2).toArray), (zr hb (by omega) _)⟩
              rw [← hwo]
              clear hwo B0 B1 B2 B3 hb
              obtain ⟨B0, B1, B2, B3, hb⟩ := hzQ
              try simp only [Act.put, pA, pB, pC]
              have lt_B0 := B0.lt
              have lt_B1 := B1.lt
              have lt_B2 := B2.lt
              have lt_B3 := B3.lt
              go_wp2_with (first | rw [← z64] | (refine zla (.tmp 5) B0 Try.underlying23 Try.size23 ?_) | (refine zlr rfl 55 (.tmp 6) rfl _ rfl 55 (frC ps.1 ps.2).toArray (B1) _ Try.underlying55 rfl 128 Try.size55 (by simp [frC_len]) ?_) | (refine zlr rfl 55 (.tmp 6) rfl _ rfl 55 (frC ps.1 ps.2).toArray (B1) _ Try.underlying55 rfl 128 Try.size55 (by simp [frC_len]) ?_) | (go_at_call 133; refine (HC2.out _).mono ?_; rintro e W11 ⟨rfl, hW11⟩; replace B0 := B0.zw hW11; replace B1 := B1.zw hW11; replace B2 := B2.zw hW11; replace B3 := B3.zw hW11; replace hb := (hb).trans (hW11.mono (hb).size)) | (refine wpList_store_rowv rfl 55 (.tmp 6) (.tmp 65) rfl _ rfl (frC (muF n D g ps ps).1 (muF n D g ps ps).2).toArray rfl 55 _ (B1) 128 Try.size55 (by simp [frC_len]) (by simp [frC_len]) (frC_all _ _) ?_; try simp only [Act.put]))
              obtain ⟨W12, hwo, hzQ⟩ : ∃ v : World, v = (W11.setRow (w.heap.size + 1) (frC (muF n D g ps ps).1 (muF n D g ps ps).2).toArray) ∧ Blk v (w.heap.size) 64 23 (D) ∧ Row v (w.heap.size + 1) 55 (frC (muF n D g ps ps).1 (muF n D g ps ps).2).toArray ∧ Row v (w.heap.size + 1 + 1) 55 (frC (fun _ => 0) (fun _ => 0)).toArray ∧ Row v (N1) 55 (frC (muF n D g po ps).1 (muF n D g po ps).2).toArray ∧ Below w.heap.size w v := ⟨_, rfl, (B0.rowOther (by omega)), (B1.row (frC (muF n D g ps ps).1 (muF n D g ps ps).2).toArray), (B2.rowOther (by omega)), (B3.rowOther (by omega)), (zr hb (by omega) _)⟩
              rw [← hwo]
              clear hwo B0 B1 B2 B3 hb
              obtain ⟨B0, B1, B2, B3, hb⟩ := hzQ
              try simp only [Act.put, pA, pB, pC]
              go_roundw
              case rel => exact ⟨q, k / 2, muF n D g po ps, muF n D g ps ps, HV2, HDd.out, by omega, HI2, by rw [show ((k / 2 : Nat) : Int) = (k : Int) / 2 by push_cast; rfl], hb, B0, B1, B2, B3⟩
              case measure => simp [intOf] <;> omega
            · have hb1 : (((k : Int) % 2) == 1) = false := beq_eq_false_iff_ne.2 (by omega)
              have hb2 : (((k : Int).tmod 2) == 1) = false := by rw [Int.tmod_eq_emod_of_nonneg (by omega)]; exact hb1
              have HV2 := Lib.hid (hP.out.trans (pgF_even hz hodd))
              have HDd := Lib.hid (show k / 2 < 2 ^ q by have := HKQ.out; rw [Nat.pow_succ] at this; omega)
              have HI2 := Lib.hid (show fmC n D g (po) ∧ fmC n D g (muF n D g ps ps) from ⟨hI.out.1, HMU.out ps ps hI.out.2 hI.out.2⟩)
              have HC1 := Lib.hid (HCP.out po ps hI.out.1 hI.out.2)
              have HC2 := Lib.hid (HCP.out ps ps hI.out.2 hI.out.2)
              clear hodd hz hP hI
              go_upto_region 16 with (fail)
              clear hb1 hb2
              have lt_B0 := B0.lt
              have lt_B1 := B1.lt
              have lt_B2 := B2.lt
              have lt_B3 := B3.lt
              go_wp2_with (first | rw [← z64] | (refine zla (.tmp 5) B0 Try.underlying23 Try.size23 ?_) | (refine zlr rfl 55 (.tmp 6) rfl _ rfl 55 (frC ps.1 ps.2).toArray (B1) _ Try.underlying55 rfl 128 Try.size55 (by simp [frC_len]) ?_) | (refine zlr rfl 55 (.tmp 6) rfl _ rfl 55 (frC ps.1 ps.2).toArray (B1) _ Try.underlying55 rfl 128 Try.size55 (by simp [frC_len]) ?_) | (go_at_call 133; refine (HC2.out _).mono ?_; rintro e W9 ⟨rfl, hW9⟩; replace B0 := B0.zw hW9; replace B1 := B1.zw hW9; replace B2 := B2.zw hW9; replace B3 := B3.zw hW9; replace hb := (hb).trans (hW9.mono (hb).size)) | (refine wpList_store_rowv rfl 55 (.tmp 6) (.tmp 65) rfl _ rfl (frC (muF n D g ps ps).1 (muF n D g ps ps).2).toArray rfl 55 _ (B1) 128 Try.size55 (by simp [frC_len]) (by simp [frC_len]) (frC_all _ _) ?_; try simp only [Act.put]))
              obtain ⟨W10, hwo, hzQ⟩ : ∃ v : World, v = (W9.setRow (w.heap.size + 1) (frC (muF n D g ps ps).1 (muF n D g ps ps).2).toArray) ∧ Blk v (w.heap.size) 64 23 (D) ∧ Row v (w.heap.size + 1) 55 (frC (muF n D g ps ps).1 (muF n D g ps ps).2).toArray ∧ Row v (w.heap.size + 1 + 1) 55 (frC (fun _ => 0) (fun _ => 0)).toArray ∧ Row v (N1) 55 (frC po.1 po.2).toArray ∧ Below w.heap.size w v := ⟨_, rfl, (B0.rowOther (by omega)), (B1.row (frC (muF n D g ps ps).1 (muF n D g ps ps).2).toArray), (B2.rowOther (by omega)), (B3.rowOther (by omega)), (zr hb (by omega) _)⟩
              rw [← hwo]
              clear hwo B0 B1 B2 B3 hb
              obtain ⟨B0, B1, B2, B3, hb⟩ := hzQ
              try simp only [Act.put, pA, pB, pC]
              go_roundw
              case rel => exact ⟨q, k / 2, po, muF n D g ps ps, HV2, HDd.out, by omega, HI2, by rw [show ((k / 2 : Nat) : Int) = (k : Int) / 2 by push_cast; rfl], hb, B0, B1, B2, B3⟩
              case measure => simp [intOf] <;> omega
       · obtain ⟨j, rfl⟩ : ∃ j : Nat, k = (j : Int) := ⟨k.toNat, by omega⟩
         rw [pbF_p n A B hneg, show ((j : Int)).natAbs = j by omega] at HV
         go_upto_region 11 with (fail)
         have hR : fmR n D A (B) g := ⟨hf, hred⟩
         have hcut : frC A (B) = frC (cut A) (cut (B)) := frC_congr (fun i hi => (cut_in _ hi).symm) (fun i hi => (cut_in _ hi).symm)
         have hfc : fmC n D g (cut A, cut (B)) := ⟨cfx_cut _ _, fmR_cut (by omega) hR⟩
         have hj9 : (j : Int) ≤ 1000000000000 := by omega
         obtain ⟨fB, hfB⟩ : ∃ fB, fB = (cut A, cut (B)) := ⟨_, rfl⟩
         rw [← hfB] at HV hfc
         rw [show frC (cut A) (cut (B)) = frC fB.1 fB.2 by rw [hfB]] at hcut
         have HCP := Lib.hid (fun F G (hF : fmC n D g F) (hG : fmC n D g G) W => l07Compose_mu n g D F G W hpr lD hdg hg2 hF hG)
         have HMU := Lib.hid (fun F G (hF : fmC n D g F) (hG : fmC n D g G) => muF_ok hpr lD hdg hg2 hF hG)
         have HCU := Lib.hid hcut
         have HU0 := Lib.hid (show fmC n D g (oneP, fun _ => 0) from ⟨cfx_one, unit_form (by omega)⟩)
         have HF0 := Lib.hid hfc
         clear hcut hfB hfc hR hc0 hpr lD hg2 hdg hf hdv hred hr
         have lt_B0 := B0.lt
         have lt_B1 := B1.lt
         have lt_B2 := B2.lt
         go_upto_region 99 with (first | rw [← z64] | rw [← frC_zero] | (go_at_call 138; refine (l07Unit_any _).mono ?_; rintro e W5 ⟨rfl, hW5⟩; replace B0 := B0.zw hW5; replace B1 := B1.zw hW5; replace B2 := B2.zw hW5; replace hb := (hb).trans (hW5.mono (hb).size)) | (refine wpList_store_rowv rfl 55 (.tmp 11) (.tmp 48) rfl _ rfl (frC oneP (fun _ => 0)).toArray rfl 55 _ ((Row.new W5 55 (frC (fun _ => 0) (fun _ => 0)).toArray)) 128 Try.size55 (by simp [frC_len]) (by simp [frC_len]) (frC_all _ _) ?_; try simp only [Act.put]))
         have lt_B0 := B0.lt
         have lt_B1 := B1.lt
         have lt_B2 := B2.lt
         have lhb := hb.size
         obtain ⟨W6, hwo, hzQ⟩ : ∃ v : World, v = ((W5.alloc (.cells (frC (fun _ => 0) (fun _ => 0)).toArray 55)).setRow (W5.heap.size) (frC oneP (fun _ => 0)).toArray) ∧ Blk v (w.heap.size) 64 23 (D) ∧ Row v (w.heap.size + 1) 55 (frC A B).toArray ∧ Row v (w.heap.size + 1 + 1) 55 (frC (fun _ => 0) (fun _ => 0)).toArray ∧ Row v (W5.heap.size) 55 (frC oneP (fun _ => 0)).toArray ∧ Below w.heap.size w v := ⟨_, rfl, ((B0.alloc (.cells (frC (fun _ => 0) (fun _ => 0)).toArray 55)).rowOther (by omega)), ((B1.alloc (.cells (frC (fun _ => 0) (fun _ => 0)).toArray 55)).rowOther (by omega)), ((B2.alloc (.cells (frC (fun _ => 0) (fun _ => 0)).toArray 55)).rowOther (by omega)), ((Row.new W5 55 (frC (fun _ => 0) (fun _ => 0)).toArray).row (frC oneP (fun _ => 0)).toArray), (zr (hb.alloc (by have := hb.size; simp; omega) (.cells (frC (fun _ => 0) (fun _ => 0)).toArray 55)) (by omega) _)⟩
         rw [← hwo]
         clear hwo B0 B1 B2 hb
         obtain ⟨B0, B1, B2, B3, hb⟩ := hzQ
         obtain ⟨N1, hNN⟩ : ∃ n : Nat, n = W5.heap.size := ⟨_, rfl⟩
         rw [← hNN] at lt_B0 lt_B1 lt_B2 lhb B3 ⊢
         clear hNN
         have zN1_0 := lt_B0
         have zN1_1 := lt_B1
         have zN1_2 := lt_B2
         have zN1 := lhb
         clear lt_B0 lt_B1 lt_B2 lhb
         try simp only [Act.put, pA, pB, pC]
         go_loopw [3] (fun i wr => ∃ (q k : Nat) (po ps : ((Nat → Nat) × (Nat → Nat))), Hid (pgF (muF n D g) 64 j (oneP, fun _ => 0) fB = pgF (muF n D g) q k po ps) ∧ k < 2 ^ q ∧ (k : Int) ≤ 1000000000000 ∧ Hid (fmC n D g po ∧ fmC n D g ps) ∧ i = .int .i64 (k : Int) ∧ Below w.heap.size w wr ∧ Blk wr (w.heap.size) 64 23 D ∧ Row wr (w.heap.size + 1) 55 (frC ps.1 ps.2).toArray ∧ Row wr (w.heap.size + 1 + 1) 55 (frC (fun _ => 0) (fun _ => 0)).toArray ∧ Row wr (N1) 55 (frC po.1 po.2).toArray) (fun i _ => (intOf i).toNat)
         case atStart => exact ⟨64, j, _, _, Lib.hid rfl, (by have h6 : (1000000000000 : Nat) < 2 ^ 64 := (by decide); omega), hj9, Lib.hid ⟨HU0.out, HF0.out⟩, rfl, hb, B0, by rw [← HCU.out]; exact B1, B2, B3⟩
         case round =>
          clear hb B0 B1 B2 B3
          obtain ⟨q, k, po, ps, hP, hkq, hk, hI, rfl, hb, B0, B1, B2, B3⟩ := hrel
          have HKQ := Lib.hid hkq
          clear hkq
          by_cases hz : k = 0
          · subst hz
            have HV2 := Lib.hid (hP.out.trans pgF_z)
            go_upto_region 17 with (fail)
            have lt_B0 := B0.lt
            have lt_B1 := B1.lt
            have lt_B2 := B2.lt
            have lt_B3 := B3.lt
            go_wp2_with (first | rw [← z64] | (refine zlr rfl 55 (.tmp 11) rfl _ rfl 55 (frC po.1 po.2).toArray (B3) _ Try.underlying55 rfl 128 Try.size55 (by simp [frC_len]) ?_) | (refine wpList_store_rowv rfl 55 (.tmp 8) (.tmp 66) rfl _ rfl (frC po.1 po.2).toArray rfl 55 _ (B2) 128 Try.size55 (by simp [frC_len]) (by simp [frC_len]) (frC_all _ _) ?_; try simp only [Act.put]; go_wp2_with fail))
            obtain ⟨W7, hwo, hzQ⟩ : ∃ v : World, v = (wr.setRow (w.heap.size + 1 + 1) (frC po.1 po.2).toArray) ∧ Blk v (w.heap.size) 64 23 (D) ∧ Row v (w.heap.size + 1) 55 (frC ps.1 ps.2).toArray ∧ Row v (w.heap.size + 1 + 1) 55 (frC po.1 po.2).toArray ∧ Row v (N1) 55 (frC po.1 po.2).toArray ∧ Below w.heap.size w v := ⟨_, rfl, (B0.rowOther (by omega)), (B1.rowOther (by omega)), (B2.row (frC po.1 po.2).toArray), (B3.rowOther (by omega)), (zr hb (by omega) _)⟩
            rw [← hwo]
            clear hwo B0 B1 B2 B3 hb
            obtain ⟨B0, B1, B2, B3, hb⟩ := hzQ
            try simp only [Act.put, pA, pB, pC]
            refine bodyPost_ret (results_rowt rfl _ _ _ _ _ rfl B2 _ Try.underlying55 rfl (by rw [Try.size55]; simp [frC_len])) rfl ⟨by rw [HV.out, HV2.out]; first | rfl | skip, hb⟩
          · obtain ⟨q, rfl⟩ : ∃ t, q = t + 1 := ⟨q - 1, by have h1 := HKQ.out; have h2 : q ≠ 0 := (by intro h; rw [h, Nat.pow_zero] at h1; omega); omega⟩
            have hpos : (0 : Int) < (k : Int) := by omega
            have hq : 0 ≤ (k : Int) / 2 := by omega
            have hq2 : ((k : Int).tdiv 2) = (k : Int) / 2 := by rw [Int.tdiv_eq_ediv_of_nonneg (by omega)]
            by_cases hodd : k % 2 = 1
            · have hb1 : (((k : Int) % 2) == 1) = true := beq_iff_eq.2 (by omega)
              have hb2 : (((k : Int).tmod 2) == 1) = true := by rw [Int.tmod_eq_emod_of_nonneg (by omega)]; exact hb1
              have HV2 := Lib.hid (hP.out.trans (pgF_odd hz hodd))
              have HDd := Lib.hid (show k / 2 < 2 ^ q by have := HKQ.out; rw [Nat.pow_succ] at this; omega)
              have HI2 := Lib.hid (show fmC n D g (muF n D g po ps) ∧ fmC n D g (muF n D g ps ps) from ⟨HMU.out po ps hI.out.1 hI.out.2, HMU.out ps ps hI.out.2 hI.out.2⟩)
              have HC1 := Lib.hid (HCP.out po ps hI.out.1 hI.out.2)
              have HC2 := Lib.hid (HCP.out ps ps hI.out.2 hI.out.2)
              clear hodd hz hP hI
              go_upto_region 15 with (fail)
              clear hb1 hb2
              have lt_B0 := B0.lt
              have lt_B1 := B1.lt
              have lt_B2 := B2.lt
              have lt_B3 := B3.lt
              go_upto_region 16 with (first | rw [← z64] | (refine zla (.tmp 5) B0 Try.underlying23 Try.size23 ?_) | (refine zlr rfl 55 (.tmp 11) rfl _ rfl 55 (frC po.1 po.2).toArray (B3) _ Try.underlying55 rfl 128 Try.size55 (by simp [frC_len]) ?_) | (refine zlr rfl 55 (.tmp 6) rfl _ rfl 55 (frC ps.1 ps.2).toArray (B1) _ Try.underlying55 rfl 128 Try.size55 (by simp [frC_len]) ?_) | (go_at_call 133; refine (HC1.out _).mono ?_; rintro e W7 ⟨rfl, hW7⟩; replace B0 := B0.zw hW7; replace B1 := B1.zw hW7; replace B2 := B2.zw hW7; replace B3 := B3.zw hW7; replace hb := (hb).trans (hW7.mono (hb).size)) | (refine wpList_store_rowv rfl 55 (.tmp 11) (.tmp 60) rfl _ rfl (frC (muF n D g po ps).1 (muF n D g po ps).2).toArray rfl 55 _ (B3) 128 Try.size55 (by simp [frC_len]) (by simp [frC_len]) (frC_all _ _) ?_; try simp only [Act.put]))
              obtain ⟨W8, hwo, hzQ⟩ : ∃ v : World, v = (W7.setRow (N1) (frC (muF n D g po ps).1 (muF n D g po ps).2).toArray) ∧ Blk v (w.heap.size) 64 23 (D) ∧ Row v (w.heap.size + 1) 55 (frC ps.1 ps.2).toArray ∧ Row v (w.heap.size + 1 + 1) 55 (frC (fun _ => 0) (fun _ => 0)).toArray ∧ Row v (N1) 55 (frC (muF n D g po ps).1 (muF n D g po ps).2).toArray ∧ Below w.heap.size w v := ⟨_, rfl, (B0.rowOther (by omega)), (B1.rowOther (by omega)), (B2.rowOther (by omega)), (B3.row (frC (muF n D g po ps).1 (muF n D g po ps).2).toArray), (zr hb (by omega) _)⟩
              rw [← hwo]
              clear hwo B0 B1 B2 B3 hb
              obtain ⟨B0, B1, B2, B3, hb⟩ := hzQ
              try simp only [Act.put, pA, pB, pC]
              have lt_B0 := B0.lt
              have lt_B1 := B1.lt
              have lt_B2 := B2.lt
              have lt_B3 := B3.lt
              go_wp2_with (first | rw [← z64] | (refine zla (.tmp 5) B0 Try.underlying23 Try.size23 ?_) | (refine zlr rfl 55 (.tmp 6) rfl _ rfl 55 (frC ps.1 ps.2).toArray (B1) _ Try.underlying55 rfl 128 Try.size55 (by simp [frC_len]) ?_) | (refine zlr rfl 55 (.tmp 6) rfl _ rfl 55 (frC ps.1 ps.2).toArray (B1) _ Try.underlying55 rfl 128 Try.size55 (by simp [frC_len]) ?_) | (go_at_call 133; refine (HC2.out _).mono ?_; rintro e W9 ⟨rfl, hW9⟩; replace B0 := B0.zw hW9; replace B1 := B1.zw hW9; replace B2 := B2.zw hW9; replace B3 := B3.zw hW9; replace hb := (hb).trans (hW9.mono (hb).size)) | (refine wpList_store_rowv rfl 55 (.tmp 6) (.tmp 65) rfl _ rfl (frC (muF n D g ps ps).1 (muF n D g ps ps).2).toArray rfl 55 _ (B1) 128 Try.size55 (by simp [frC_len]) (by simp [frC_len]) (frC_all _ _) ?_; try simp only [Act.put]))
              obtain ⟨W10, hwo, hzQ⟩ : ∃ v : World, v = (W9.setRow (w.heap.size + 1) (frC (muF n D g ps ps).1 (muF n D g ps ps).2).toArray) ∧ Blk v (w.heap.size) 64 23 (D) ∧ Row v (w.heap.size + 1) 55 (frC (muF n D g ps ps).1 (muF n D g ps ps).2).toArray ∧ Row v (w.heap.size + 1 + 1) 55 (frC (fun _ => 0) (fun _ => 0)).toArray ∧ Row v (N1) 55 (frC (muF n D g po ps).1 (muF n D g po ps).2).toArray ∧ Below w.heap.size w v := ⟨_, rfl, (B0.rowOther (by omega)), (B1.row (frC (muF n D g ps ps).1 (muF n D g ps ps).2).toArray), (B2.rowOther (by omega)), (B3.rowOther (by omega)), (zr hb (by omega) _)⟩
              rw [← hwo]
              clear hwo B0 B1 B2 B3 hb
              obtain ⟨B0, B1, B2, B3, hb⟩ := hzQ
              try simp only [Act.put, pA, pB, pC]
              go_roundw
              case rel => exact ⟨q, k / 2, muF n D g po ps, muF n D g ps ps, HV2, HDd.out, by omega, HI2, by rw [show ((k / 2 : Nat) : Int) = (k : Int) / 2 by push_cast; rfl], hb, B0, B1, B2, B3⟩
              case measure => simp [intOf] <;> omega
            · have hb1 : (((k : Int) % 2) == 1) = false := beq_eq_false_iff_ne.2 (by omega)
              have hb2 : (((k : Int).tmod 2) == 1) = false := by rw [Int.tmod_eq_emod_of_nonneg (by omega)]; exact hb1
              have HV2 := Lib.hid (hP.out.trans (pgF_even hz hodd))
              have HDd := Lib.hid (show k / 2 < 2 ^ q by have := HKQ.out; rw [Nat.pow_succ] at this; omega)
              have HI2 := Lib.hid (show fmC n D g (po) ∧ fmC n D g (muF n D g ps ps) from ⟨hI.out.1, HMU.out ps ps hI.out.2 hI.out.2⟩)
              have HC1 := Lib.hid (HCP.out po ps hI.out.1 hI.out.2)
              have HC2 := Lib.hid (HCP.out ps ps hI.out.2 hI.out.2)
              clear hodd hz hP hI
              go_upto_region 16 with (fail)
              clear hb1 hb2
              have lt_B0 := B0.lt
              have lt_B1 := B1.lt
              have lt_B2 := B2.lt
              have lt_B3 := B3.lt
              go_wp2_with (first | rw [← z64] | (refine zla (.tmp 5) B0 Try.underlying23 Try.size23 ?_) | (refine zlr rfl 55 (.tmp 6) rfl _ rfl 55 (frC ps.1 ps.2).toArray (B1) _ Try.underlying55 rfl 128 Try.size55 (by simp [frC_len]) ?_) | (refine zlr rfl 55 (.tmp 6) rfl _ rfl 55 (frC ps.1 ps.2).toArray (B1) _ Try.underlying55 rfl 128 Try.size55 (by simp [frC_len]) ?_) | (go_at_call 133; refine (HC2.out _).mono ?_; rintro e W7 ⟨rfl, hW7⟩; replace B0 := B0.zw hW7; replace B1 := B1.zw hW7; replace B2 := B2.zw hW7; replace B3 := B3.zw hW7; replace hb := (hb).trans (hW7.mono (hb).size)) | (refine wpList_store_rowv rfl 55 (.tmp 6) (.tmp 65) rfl _ rfl (frC (muF n D g ps ps).1 (muF n D g ps ps).2).toArray rfl 55 _ (B1) 128 Try.size55 (by simp [frC_len]) (by simp [frC_len]) (frC_all _ _) ?_; try simp only [Act.put]))
              obtain ⟨W8, hwo, hzQ⟩ : ∃ v : World, v = (W7.setRow (w.heap.size + 1) (frC (muF n D g ps ps).1 (muF n D g ps ps).2).toArray) ∧ Blk v (w.heap.size) 64 23 (D) ∧ Row v (w.heap.size + 1) 55 (frC (muF n D g ps ps).1 (muF n D g ps ps).2).toArray ∧ Row v (w.heap.size + 1 + 1) 55 (frC (fun _ => 0) (fun _ => 0)).toArray ∧ Row v (N1) 55 (frC po.1 po.2).toArray ∧ Below w.heap.size w v := ⟨_, rfl, (B0.rowOther (by omega)), (B1.row (frC (muF n D g ps ps).1 (muF n D g ps ps).2).toArray), (B2.rowOther (by omega)), (B3.rowOther (by omega)), (zr hb (by omega) _)⟩
              rw [← hwo]
              clear hwo B0 B1 B2 B3 hb
              obtain ⟨B0, B1, B2, B3, hb⟩ := hzQ
              try simp only [Act.put, pA, pB, pC]
              go_roundw
              case rel => exact ⟨q, k / 2, po, muF n D g ps ps, HV2, HDd.out, by omega, HI2, by rw [show ((k / 2 : Nat) : Int) = (k : Int) / 2 by push_cast; rfl], hb, B0, B1, B2, B3⟩
              case measure => simp [intOf] <;> omega
     · have HV := Lib.hid (pfV_5 hc0 hr (by rw [hdv]; show ¬ deg A ≤ (g : Int); omega))
       go_upto_region 5 with (first | (go_at_call 89; refine (l01In_any _ _ _ _).mono ?_; rintro e wS ⟨rfl, rfl⟩; rw [show decide ((-1000000000000 : Int) ≤ k ∧ k ≤ 1000000000000) = true by simp; omega]))
       have hc2 : ckR (n : Int) D [(A, B)] = 5 := ckR_5 (j := 0) (F := (A, B)) hc0 rfl (by rw [hdv]; show ¬ deg A ≤ (g : Int); omega)
       go_upto_region 7 with (first | (refine zla (.tmp 5) B0 Try.underlying23 Try.size23 ?_) | (refine zlr rfl 55 (.tmp 6) rfl _ rfl 55 (frC A B).toArray (B1) _ Try.underlying55 rfl 128 Try.size55 (by simp [frC_len]) ?_) | (go_at_call 127; refine (l07Code_red (n : Int) D hD [(A, B)] (by simp [hA, hB]) (by simp) _ _ hps).mono ?_; rintro e W4 ⟨rfl, hW4⟩; replace B0 := B0.zw hW4; replace B1 := B1.zw hW4; replace B2 := B2.zw hW4; replace hb := (hb).trans (hW4.mono (hb).size); rw [hc2]) | (refine wpList_build_frs rfl 61 _ [(A, B)] rfl 55 Try.underlying61 Try.elem55 (by simp) (by simp) rfl ?_; intro wa hps hba; replace B0 := B0.zw hba; replace B1 := B1.zw hba; replace B2 := B2.zw hba; replace hb := hb.trans (hba.mono hb.size)))
       clear hc0 hpr lD hg2 hdg hf hdv
       have lt_B0 := B0.lt
       have lt_B1 := B1.lt
       have lt_B2 := B2.lt
       go_wp2_with (first | rw [← z64] | rw [← frC_zero] | (refine wpList_store_rowv rfl 55 (.tmp 8) (.tmp 35) rfl _ rfl (frC (fun _ => 0) (fun _ => 0)).toArray rfl 55 _ (B2) 128 Try.size55 (by simp [frC_len]) (by simp [frC_len]) (frC_all _ _) ?_; try simp only [Act.put]; go_wp2_with fail))
       obtain ⟨W5, hwo, hzQ⟩ : ∃ v : World, v = (W4.setRow (w.heap.size + 1 + 1) (frC (fun _ => 0) (fun _ => 0)).toArray) ∧ Blk v (w.heap.size) 64 23 (D) ∧ Row v (w.heap.size + 1) 55 (frC A B).toArray ∧ Row v (w.heap.size + 1 + 1) 55 (frC (fun _ => 0) (fun _ => 0)).toArray ∧ Below w.heap.size w v := ⟨_, rfl, (B0.rowOther (by omega)), (B1.rowOther (by omega)), (B2.row (frC (fun _ => 0) (fun _ => 0)).toArray), (zr hb (by omega) _)⟩
       rw [← hwo]
       clear hwo B0 B1 B2 hb
       obtain ⟨B0, B1, B2, hb⟩ := hzQ
       try simp only [Act.put, pA, pB, pC]
       refine bodyPost_ret (results_rowt rfl _ _ _ _ _ rfl B2 _ Try.underlying55 rfl (by rw [Try.size55]; simp [frC_len])) rfl ⟨by first | (rw [HV.out]; rfl) | rw [HV.out], hb⟩
   · have HV := Lib.hid (pfV_2 hc0 hr)
     clear hc0 hpr lD hg2 hdg hf hdv
     go_upto_region 4 with (first | (go_at_call 89; refine (l01In_any _ _ _ _).mono ?_; rintro e wS ⟨rfl, rfl⟩; rw [show decide ((-1000000000000 : Int) ≤ k ∧ k ≤ 1000000000000) = false by simp; omega]))
     have lt_B0 := B0.lt
     have lt_B1 := B1.lt
     have lt_B2 := B2.lt
     go_wp2_with (first | rw [← z64] | rw [← frC_zero] | (refine wpList_store_rowv rfl 55 (.tmp 8) (.tmp 27) rfl _ rfl (frC (fun _ => 0) (fun _ => 0)).toArray rfl 55 _ (B2) 128 Try.size55 (by simp [frC_len]) (by simp [frC_len]) (frC_all _ _) ?_; try simp only [Act.put]; go_wp2_with fail))
     obtain ⟨W4, hwo, hzQ⟩ : ∃ v : World, v = (W3.setRow (w.heap.size + 1 + 1) (frC (fun _ => 0) (fun _ => 0)).toArray) ∧ Blk v (w.heap.size) 64 23 (D) ∧ Row v (w.heap.size + 1) 55 (frC A B).toArray ∧ Row v (w.heap.size + 1 + 1) 55 (frC (fun _ => 0) (fun _ => 0)).toArray ∧ Below w.heap.size w v := ⟨_, rfl, (B0.rowOther (by omega)), (B1.rowOther (by omega)), (B2.row (frC (fun _ => 0) (fun _ => 0)).toArray), (zr hb (by omega) _)⟩
     rw [← hwo]
     clear hwo B0 B1 B2 hb
     obtain ⟨B0, B1, B2, hb⟩ := hzQ
     try simp only [Act.put, pA, pB, pC]
     refine bodyPost_ret (results_rowt rfl _ _ _ _ _ rfl B2 _ Try.underlying55 rfl (by rw [Try.size55]; simp [frC_len])) rfl ⟨by first | (rw [HV.out]; rfl) | rw [HV.out], hb⟩
 · have HV := Lib.hid (pfV_1 (k := k) hc)
   cases hdc : dcB p D with
   | false =>
    rw [hdc] at HDC
    go_upto_region 2 with (first | (refine zla (.tmp 5) B0 Try.underlying23 Try.size23 ?_) | (go_at_call 124; refine (HDC.out _).mono ?_; rintro e W2 ⟨rfl, hW2⟩; replace B0 := B0.zw hW2; replace B1 := B1.zw hW2; replace B2 := B2.zw hW2; replace hb := (hb).trans (hW2.mono (hb).size)))
    have lt_B0 := B0.lt
    have lt_B1 := B1.lt
    have lt_B2 := B2.lt
    go_wp2_with (first | rw [← z64] | rw [← frC_zero] | (refine wpList_store_rowv rfl 55 (.tmp 8) (.tmp 23) rfl _ rfl (frC (fun _ => 0) (fun _ => 0)).toArray rfl 55 _ (B2) 128 Try.size55 (by simp [frC_len]) (by simp [frC_len]) (frC_all _ _) ?_; try simp only [Act.put]; go_wp2_with fail))
    obtain ⟨W3, hwo, hzQ⟩ : ∃ v : World, v = (W2.setRow (w.heap.size + 1 + 1) (frC (fun _ => 0) (fun _ => 0)).toArray) ∧ Blk v (w.heap.size) 64 23 (D) ∧ Row v (w.heap.size + 1) 55 (frC A B).toArray ∧ Row v (w.heap.size + 1 + 1) 55 (frC (fun _ => 0) (fun _ => 0)).toArray ∧ Below w.heap.size w v := ⟨_, rfl, (B0.rowOther (by omega)), (B1.rowOther (by omega)), (B2.row (frC (fun _ => 0) (fun _ => 0)).toArray), (zr hb (by omega) _)⟩
    rw [← hwo]
    clear hwo B0 B1 B2 hb
    obtain ⟨B0, B1, B2, hb⟩ := hzQ
    try simp only [Act.put, pA, pB, pC]
    refine bodyPost_ret (results_rowt rfl _ _ _ _ _ rfl B2 _ Try.underlying55 rfl (by rw [Try.size55]; simp [frC_len])) rfl ⟨by first | (rw [HV.out]; rfl) | rw [HV.out], hb⟩
   | true =>
    obtain ⟨n, g, rfl, hpr, lD, hg2, hdg⟩ := dcB_out hdc
    have hfm : fmB (n : Int) D A B = false := by
     cases hfm : fmB (n : Int) D A B with
     | false => rfl
     | true =>
      have := ckF_yes (Fs := [(A, B)]) hdc (fun i F hF => by
       match i, hF with
       | 0, hF => cases hF; exact hfm)
      omega
    rw [hdc] at HDC
    have HFM := Lib.hid (fun W => l07Form_any n D A B W hpr lD hA hB)
    rw [hfm] at HFM
    clear hdc hfm hc lD hg2 hdg
    go_upto_region 2 with (first | (refine zla (.tmp 5) B0 Try.underlying23 Try.size23 ?_) | (go_at_call 124; refine (HDC.out _).mono ?_; rintro e W2 ⟨rfl, hW2⟩; replace B0 := B0.zw hW2; replace B1 := B1.zw hW2; replace B2 := B2.zw hW2; replace hb := (hb).trans (hW2.mono (hb).size)) | (refine zlg rfl 23 (.tmp 5) rfl _ rfl 64 23 _ (B0) _ Try.underlying23 rfl Try.size23 ?_) | (refine wpList_load_rowv_g rfl 55 (.tmp 6) rfl _ rfl 55 (frC A B).toArray (B1) _ Try.underlying55 rfl 128 Try.size55 (by simp [frC_len]) ?_) | (go_at_call 125; refine (HFM.out _).mono ?_; rintro e W3 ⟨rfl, hW3⟩; replace B0 := B0.zw hW3; replace B1 := B1.zw hW3; replace B2 := B2.zw hW3; replace hb := (hb).trans (hW3.mono (hb).size)))
    have lt_B0 := B0.lt
    have lt_B1 := B1.lt
    have lt_B2 := B2.lt
    go_wp2_with (first | rw [← z64] | rw [← frC_zero] | (refine wpList_store_rowv rfl 55 (.tmp 8) (.tmp 23) rfl _ rfl (frC (fun _ => 0) (fun _ => 0)).toArray rfl 55 _ (B2) 128 Try.size55 (by simp [frC_len]) (by simp [frC_len]) (frC_all _ _) ?_; try simp only [Act.put]; go_wp2_with fail))
    obtain ⟨W4, hwo, hzQ⟩ : ∃ v : World, v = (W3.setRow (w.heap.size + 1 + 1) (frC (fun _ => 0) (fun _ => 0)).toArray) ∧ Blk v (w.heap.size) 64 23 (D) ∧ Row v (w.heap.size + 1) 55 (frC A B).toArray ∧ Row v (w.heap.size + 1 + 1) 55 (frC (fun _ => 0) (fun _ => 0)).toArray ∧ Below w.heap.size w v := ⟨_, rfl, (B0.rowOther (by omega)), (B1.rowOther (by omega)), (B2.row (frC (fun _ => 0) (fun _ => 0)).toArray), (zr hb (by omega) _)⟩
    rw [← hwo]
    clear hwo B0 B1 B2 hb
    obtain ⟨B0, B1, B2, hb⟩ := hzQ
    try simp only [Act.put, pA, pB, pC]
    refine bodyPost_ret (results_rowt rfl _ _ _ _ _ rfl B2 _ Try.underlying55 rfl (by rw [Try.size55]; simp [frC_len])) rfl ⟨by first | (rw [HV.out]; rfl) | rw [HV.out], hb⟩
set_option maxRecDepth 100000 in
set_option maxHeartbeats 1600000 in
theorem FnExactPowerOfForm_walk (p : Int) (D : Nat → Nat) (A B : Nat → Nat) (k : Int) (hD : byte D) (hA : byte A) (hB : byte B) (w : World) :
 Calls Try.prog 22 #[.int .i64 p, .agg (zb 64 D), .agg (frC A B).toArray, .int .i64 k] w fun e w' => e = .returned (.bool true) ∧ Below w.heap.size w w' := by
 have HPD := Lib.hid (fun W => toPoly_any D hD W)
 have HFA := Lib.hid (fun W => toForm_any A B hA hB W)
 have HS := Lib.hid (fun W => spec_PowerOfForm_any p D A B k hD hA hB W)
 have HI := Lib.hid (fun W => impl_PowerOfForm_any p D A B k hD hA hB W)
 obtain ⟨⟨⟨Fa, Fb⟩, j⟩, hV⟩ : ∃ V, V = (pfV p D A B k) := ⟨_, rfl⟩
 rw [← hV] at HS HI
 dsimp only at HS HI
 have hne1 : ((j) != (j)) = false := by simp
 clear hV
 have HE := Lib.hid (fun W => eqForm_same Fa Fb W)
 go_enter Try.func22, Try.ntmps22
 go_upto_region 1 with (fail)
 obtain ⟨W1, hwo⟩ : ∃ v : World, v = ((w.alloc (.cells (zb 64 (D)) 22)).alloc (.cells (frC A B).toArray 52)) := ⟨_, rfl⟩
 have B0 : Blk W1 (w.heap.size) 64 22 (D) := by subst hwo; have := ((Blk.new w 64 22 (D)).alloc (.cells (frC A B).toArray 52)); simpa using this
 have B1 : Row W1 (w.heap.size + 1) 52 (frC A B).toArray := by subst hwo; have := (Row.new (w.alloc (.cells (zb 64 (D)) 22)) 52 (frC A B).toArray); simpa using this
 have hb : Below w.heap.size w W1 := by subst hwo; exact (((Below.refl _ _).alloc (Nat.le_refl _) _).alloc (by simp) _)
 rw [← hwo]
 clear hwo
 have lt_B0 : (w.heap.size) < W1.heap.size := B0.lt
 have lt_B1 : (w.heap.size + 1) < W1.heap.size := B1.lt
 refine zq Try.mixed (by kernel_rfl) (by kernel_rfl) (fun v => by (simp only [frL, Act.put, pA, pB, pC, Nat.reduceAdd, Nat.zero_add]; exact rfl))
  (fun L v W2 => Below W1.heap.size W1 W2 ∧ (L 10 = true → AR (v 10) W2 W1.heap.size 128 55) ∧ (L 11 = true → PR (v 10) W2 W1.heap.size 55 (frC Fa Fb).toArray) ∧ VF L v [some (.int .i64 p), some (.agg (zb 64 (D))), some (.agg (zb 64 (D))), some (.agg (frC A B).toArray), some (.agg (frC A B).toArray), some (.int .i64 k), some (.tuple #[(.agg (frC Fa Fb).toArray), (.int .i64 j)]), some (.tuple #[(.agg (frC Fa Fb).toArray), (.int .i64 j)]), some (.agg (frC Fa Fb).toArray), some (.int .i64 j), none, none, some (.int .i64 j)]) ?_ ?_ ?_
 · intro v hv0
   exact ⟨(Below.refl _ W1).drew, (fun h => by cases h), (fun h => by cases h), VF.start⟩
 · refine (.cons rfl ?_ (.cons rfl ?_ (.cons rfl ?_ (.cons rfl ?_ (.cons rfl ?_ (.cons rfl ?_ (.cons rfl ?_ (.cons rfl ?_ (.cons rfl ?_ (.cons rfl ?_ (.cons rfl ?_ (.cons rfl ?_ (.cons rfl ?_ (.nil _))))))))))))))
   all_goals intro L v W2 hd hn ⟨hY, h10, h11, V⟩ K hK
   · go_wp2_with fail
     exact hK _ (.int .i64 p) _ (by simp only [Act.put, pA, pB, pC ]) ⟨hY, h10, h11, V.step 0 rfl⟩
   · refine zlc (B0.zw hY) Try.underlying22 Try.size22 ?_
     exact hK _ _ _ rfl ⟨hY, h10, h11, V.step 1 rfl⟩
   · have e1 := V.at (zdq hd 1 rfl) rfl
     go_wp2_with (go_at_call 26; refine (HPD.out _).mono ?_; rintro e wy ⟨rfl, hy⟩)
     exact hK _ (.agg (zb 64 (D))) _ (by simp only [Act.put, pA, pB, pC, e1]) ⟨hY.trans (hy.mono hY.size), (fun h => (h10 h).belowR hy), (fun h => (h11 h).belowR hy), V.step 2 rfl⟩
   · refine wp_load_rowv 52 _ rfl _ rfl 52 _ (B1.zw hY) _ Try.underlying52 rfl 128 Try.size52 (by simp [frC_len]) ?_
     exact hK _ _ _ rfl ⟨hY, h10, h11, V.step 3 rfl⟩
   · have e3 := V.at (zdq hd 3 rfl) rfl
     go_wp2_with (go_at_call 60; refine (HFA.out _).mono ?_; rintro e wy ⟨rfl, hy⟩)
     exact hK _ (.agg (frC A B).toArray) _ (by simp only [Act.put, pA, pB, pC, e3]) ⟨hY.trans (hy.mono hY.size), (fun h => (h10 h).belowR hy), (fun h => (h11 h).belowR hy), V.step 4 rfl⟩
   · go_wp2_with fail
     exact hK _ (.int .i64 k) _ (by simp only [Act.put, pA, pB, pC ]) ⟨hY, h10, h11, V.step 5 rfl⟩
   · have e0 := V.at (zdq hd 0 rfl) rfl
     have e2 := V.at (zdq hd 2 rfl) rfl
     have e4 := V.at (zdq hd 4 rfl) rfl
     have e5 := V.at (zdq hd 5 rfl) rfl
     go_wp2_with (go_at_call 76; refine (HS.out _).mono ?_; rintro e wy ⟨rfl, hy⟩)
     exact hK _ (.tuple #[(.agg (frC Fa Fb).toArray), (.int .i64 j)]) _ (by simp only [Act.put, pA, pB, pC, e0, e2, e4, e5]) ⟨hY.trans (hy.mono hY.size), (fun h => (h10 h).belowR hy), (fun h => (h11 h).belowR hy), V.step 6 rfl⟩
   · have e6 := V.at (zdq hd 6 rfl) rfl
     go_wp2_with fail
     exact hK _ (.tuple #[(.agg (frC Fa Fb).toArray), (.int .i64 j)]) _ (by simp only [Act.put, pA, pB, pC, e6]) ⟨hY, h10, h11, V.step 7 rfl⟩
   · have e7 := V.at (zdq hd 7 rfl) rfl
     go_wp2_with fail
     exact hK _ (.agg (frC Fa Fb).toArray) _ (by simp only [Act.put, pA, pB, pC, e7]) ⟨hY, h10, h11, V.step 8 rfl⟩
   · have e7 := V.at (zdq hd 7 rfl) rfl
     go_wp2_with fail
     exact hK _ (.int .i64 j) _ (by simp only [Act.put, pA, pB, pC, e7]) ⟨hY, h10, h11, V.step 9 rfl⟩
   · go_wp2_with fail
     rw [← frC_zero]
     exact hK _ (.pointer (some ⟨W2.heap.size, 0, none⟩)) _ (by simp only [Act.put, pA, pB, pC ]) ⟨hY.alloc hY.size _, (fun _ => (PR.newR W2 55 _ hY.size).ar (by simp [frC_len])), (fun h => absurd rfl (hn 11 _ rfl h ⟨10, .data⟩ (by simp) rfl)), V.skip 10 rfl⟩
   · have e8 := V.at (zdq hd 8 rfl) rfl
     obtain ⟨gz, b, ea, hN, hgz, hk⟩ := (h10 (zdq hd 10 rfl)).outR
     refine wp_store_rowv 55 _ _ rfl b ea (frC Fa Fb).toArray e8 55 gz hk 128 Try.size55 hgz (by simp [frC_len]) (frC_all _ _) ?_
     exact hK _ undef _ rfl ⟨zr hY hN _, (fun h => (h10 h).rowR hk _ (by simp [frC_len])), (fun _ => by rw [show updV v 11 undef 10 = v 10 from rfl, ea]; exact PR.rowR hk hN _), V.skip 11 rfl⟩
   · have e9 := V.at (zdq hd 9 rfl) rfl
     go_wp2_with fail
     exact hK _ (.int .i64 j) _ (by simp only [Act.put, pA, pB, pC, e9]) ⟨hY, h10, h11, V.step 12 rfl⟩
 · intro L v W2 hL ⟨hY, h10, h11, V⟩
   obtain ⟨k1_10, e10, hNk1_10, hk1_10⟩ := (h11 (hL 11 (by decide))).outR
   have e0 := V.at (hL 0 (by decide)) rfl
   have e1 := V.at (hL 1 (by decide)) rfl
   have e2 := V.at (hL 2 (by decide)) rfl
   have e3 := V.at (hL 3 (by decide)) rfl
   have e4 := V.at (hL 4 (by decide)) rfl
   have e5 := V.at (hL 5 (by decide)) rfl
   have e6 := V.at (hL 6 (by decide)) rfl
   have e7 := V.at (hL 7 (by decide)) rfl
   have e8 := V.at (hL 8 (by decide)) rfl
   have e9 := V.at (hL 9 (by decide)) rfl
   have e12 := V.at (hL 12 (by decide)) rfl
   clear hL h10 h11 V
   replace B0 := B0.zw hY
   replace B1 := B1.zw hY
   replace hb := hb.trans (hY.mono hb.size)
   clear hY
   simp only [Exit.then, e10, e0, e1, e2, e3, e4, e5, e6, e7, e8, e9, e12]
   clear e10 e0 e1 e2 e3 e4 e5 e6 e7 e8 e9 e12
   have B2 := hk1_10
   clear hk1_10
   have zk1_10_0 : w.heap.size < k1_10 := by omega
   have zk1_10_1 : w.heap.size + 1 < k1_10 := by omega
   clear lt_B0 lt_B1
   go_upto_region 2 with (fail)
   have lt_B0 : (w.heap.size) < W2.heap.size := B0.lt
   have lt_B1 : (w.heap.size + 1) < W2.heap.size := B1.lt
   have lt_B2 : (k1_10) < W2.heap.size := B2.lt
   refine zq Try.mixed (by kernel_rfl) (by kernel_rfl) (fun v => by (simp only [frL, Act.put, pA, pB, pC, Nat.reduceAdd, Nat.zero_add]; exact rfl))
    (fun L v W3 => Below W2.heap.size W2 W3 ∧ (L 10 = true → AR (v 10) W3 W2.heap.size 128 55) ∧ (L 11 = true → PR (v 10) W3 W2.heap.size 55 (frC Fa Fb).toArray) ∧ VF L v [some (.int .i64 p), some (.agg (zb 64 (D))), some (.agg (zb 64 (D))), some (.agg (frC A B).toArray), some (.agg (frC A B).toArray), some (.int .i64 k), some (.tuple #[(.agg (frC Fa Fb).toArray), (.int .i64 j)]), some (.tuple #[(.agg (frC Fa Fb).toArray), (.int .i64 j)]), some (.agg (frC Fa Fb).toArray), some (.int .i64 j), none, none, some (.int .i64 j)]) ?_ ?_ ?_
   · intro v hv0
     exact ⟨(Below.refl _ W2).drew, (fun h => by cases h), (fun h => by cases h), VF.start⟩
   · refine (.cons rfl ?_ (.cons rfl ?_ (.cons rfl ?_ (.cons rfl ?_ (.cons rfl ?_ (.cons rfl ?_ (.cons rfl ?_ (.cons rfl ?_ (.cons rfl ?_ (.cons rfl ?_ (.cons rfl ?_ (.cons rfl ?_ (.cons rfl ?_ (.nil _))))))))))))))
     all_goals intro L v W3 hd hn ⟨hY, h10, h11, V⟩ K hK
     · go_wp2_with fail
       exact hK _ (.int .i64 p) _ (by simp only [Act.put, pA, pB, pC ]) ⟨hY, h10, h11, V.step 0 rfl⟩
     · refine zlc (B0.zw hY) Try.underlying22 Try.size22 ?_
       exact hK _ _ _ rfl ⟨hY, h10, h11, V.step 1 rfl⟩
     · have e1 := V.at (zdq hd 1 rfl) rfl
       go_wp2_with (go_at_call 26; refine (HPD.out _).mono ?_; rintro e wy ⟨rfl, hy⟩)
       exact hK _ (.agg (zb 64 (D))) _ (by simp only [Act.put, pA, pB, pC, e1]) ⟨hY.trans (hy.mono hY.size), (fun h => (h10 h).belowR hy), (fun h => (h11 h).belowR hy), V.step 2 rfl⟩
     · refine wp_load_rowv 52 _ rfl _ rfl 52 _ (B1.zw hY) _ Try.underlying52 rfl 128 Try.size52 (by simp [frC_len]) ?_
       exact hK _ _ _ rfl ⟨hY, h10, h11, V.step 3 rfl⟩
     · have e3 := V.at (zdq hd 3 rfl) rfl
       go_wp2_with (go_at_call 60; refine (HFA.out _).mono ?_; rintro e wy ⟨rfl, hy⟩)
       exact hK _ (.agg (frC A B).toArray) _ (by simp only [Act.put, pA, pB, pC, e3]) ⟨hY.trans (hy.mono hY.size), (fun h => (h10 h).belowR hy), (fun h => (h11 h).belowR hy), V.step 4 rfl⟩
     · go_wp2_with fail
       exact hK _ (.int .i64 k) _ (by simp only [Act.put, pA, pB, pC ]) ⟨hY, h10, h11, V.step 5 rfl⟩
     · have e0 := V.at (zdq hd 0 rfl) rfl
       have e2 := V.at (zdq hd 2 rfl) rfl
       have e4 := V.at (zdq hd 4 rfl) rfl
       have e5 := V.at (zdq hd 5 rfl) rfl
       go_wp2_with (go_at_call 77; refine (HI.out _).mono ?_; rintro e wy ⟨rfl, hy⟩)
       exact hK _ (.tuple #[(.agg (frC Fa Fb).toArray), (.int .i64 j)]) _ (by simp only [Act.put, pA, pB, pC, e0, e2, e4, e5]) ⟨hY.trans (hy.mono hY.size), (fun h => (h10 h).belowR hy), (fun h => (h11 h).belowR hy), V.step 6 rfl⟩
     · have e6 := V.at (zdq hd 6 rfl) rfl
       go_wp2_with fail
       exact hK _ (.tuple #[(.agg (frC Fa Fb).toArray), (.int .i64 j)]) _ (by simp only [Act.put, pA, pB, pC, e6]) ⟨hY, h10, h11, V.step 7 rfl⟩
     · have e7 := V.at (zdq hd 7 rfl) rfl
       go_wp2_with fail
       exact hK _ (.agg (frC Fa Fb).toArray) _ (by simp only [Act.put, pA, pB, pC, e7]) ⟨hY, h10, h11, V.step 8 rfl⟩
     · have e7 := V.at (zdq hd 7 rfl) rfl
       go_wp2_with fail
       exact hK _ (.int .i64 j) _ (by simp only [Act.put, pA, pB, pC, e7]) ⟨hY, h10, h11, V.step 9 rfl⟩
     · go_wp2_with fail
       rw [← frC_zero]
       exact hK _ (.pointer (some ⟨W3.heap.size, 0, none⟩)) _ (by simp only [Act.put, pA, pB, pC ]) ⟨hY.alloc hY.size _, (fun _ => (PR.newR W3 55 _ hY.size).ar (by simp [frC_len])), (fun h => absurd rfl (hn 11 _ rfl h ⟨10, .data⟩ (by simp) rfl)), V.skip 10 rfl⟩
     · have e8 := V.at (zdq hd 8 rfl) rfl
       obtain ⟨gz, b, ea, hN, hgz, hk⟩ := (h10 (zdq hd 10 rfl)).outR
       refine wp_store_rowv 55 _ _ rfl b ea (frC Fa Fb).toArray e8 55 gz hk 128 Try.size55 hgz (by simp [frC_len]) (frC_all _ _) ?_
       exact hK _ undef _ rfl ⟨zr hY hN _, (fun h => (h10 h).rowR hk _ (by simp [frC_len])), (fun _ => by rw [show updV v 11 undef 10 = v 10 from rfl, ea]; exact PR.rowR hk hN _), V.skip 11 rfl⟩
     · have e9 := V.at (zdq hd 9 rfl) rfl
       go_wp2_with fail
       exact hK _ (.int .i64 j) _ (by simp only [Act.put, pA, pB, pC, e9]) ⟨hY, h10, h11, V.step 12 rfl⟩
   · intro L v W3 hL ⟨hY, h10, h11, V⟩
     obtain ⟨k2_10, e10, hNk2_10, hk2_10⟩ := (h11 (hL 11 (by decide))).outR
     have e0 := V.at (hL 0 (by decide)) rfl
     have e1 := V.at (hL 1 (by decide)) rfl
     have e2 := V.at (hL 2 (by decide)) rfl
     have e3 := V.at (hL 3 (by decide)) rfl
     have e4 := V.at (hL 4 (by decide)) rfl
     have e5 := V.at (hL 5 (by decide)) rfl
     have e6 := V.at (hL 6 (by decide)) rfl
     have e7 := V.at (hL 7 (by decide)) rfl
     have e8 := V.at (hL 8 (by decide)) rfl
     have e9 := V.at (hL 9 (by decide)) rfl
     have e12 := V.at (hL 12 (by decide)) rfl
     clear hL h10 h11 V
     replace B0 := B0.zw hY
     replace B1 := B1.zw hY
     replace B2 := B2.zw hY
     replace hb := hb.trans (hY.mono hb.size)
     clear hY
     simp only [Exit.then, e10, e0, e1, e2, e3, e4, e5, e6, e7, e8, e9, e12]
     clear e10 e0 e1 e2 e3 e4 e5 e6 e7 e8 e9 e12
     have B3 := hk2_10
     clear hk2_10
     have zk2_10_0 : w.heap.size < k2_10 := by omega
     have zk2_10_1 : w.heap.size + 1 < k2_10 := by omega
     have zk2_10_2 : k1_10 < k2_10 := by omega
     clear lt_B0 lt_B1 lt_B2
     go_upto_region 3 with (fail)
     go_wp2_with (first | (refine zlr rfl 55 (.tmp 11) rfl _ rfl 55 (frC Fa Fb).toArray (B3) _ Try.underlying55 rfl 128 Try.size55 (by simp [frC_len]) ?_) | (refine zlr rfl 55 (.tmp 9) rfl _ rfl 55 (frC Fa Fb).toArray (B2) _ Try.underlying55 rfl 128 Try.size55 (by simp [frC_len]) ?_) | (go_at_call 64; refine (HE.out _).mono ?_; rintro e W4 ⟨rfl, hW4⟩; replace B0 := B0.zw hW4; replace B1 := B1.zw hW4; replace B2 := B2.zw hW4; replace B3 := B3.zw hW4; replace hb := (hb).trans (hW4.mono (hb).size)))
     go_ret
     exact ⟨rfl, hb⟩
end Go.Proofs.Ytoncepgcfifgbaa
end
