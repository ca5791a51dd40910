/-
  What the rows of this claim rest on: arrays of bytes, walks of the functions, plain mathematics.
-/
import Derived.Test.YtoncepgcfifgbaaZf5
import Derived.OpenShut
import Derived.ProofKit
import Derived.Test.YtoncepgcfifgbaaRows
import Derived.JoinedOf
section
namespace Go.Proofs.Ytoncepgcfifgbaa
open Go Go.RowKit
set_option linter.unusedVariables false
set_option linter.unusedSimpArgs false
attribute [local irreducible] deg invN quoP resP prd bzD bzU bzW sqP ngP mkP okA monB dvN rdR
set_option maxRecDepth 100000 in
set_option maxHeartbeats 3200000 in
theorem checkForms_any (p : Int) (D : Nat → Nat) (hD : byte D) (Fs : List ((Nat → Nat) × (Nat → Nat))) (hF : ∀ F, F ∈ Fs → byte F.1 ∧ byte F.2) (hlen : Fs.length ≤ 8) (bS : Nat) (w : World) (B0 : Row w bS 55 (fmL Fs).toArray) :
 Calls Try.prog 129 #[.int .i64 p, .agg (zb 64 D), .slice (some ⟨bS, 0, none⟩) Fs.length Fs.length] w fun e w' => e = .returned (.int .i64 (ckF p D Fs)) ∧ Below w.heap.size w w' := by
 have HDC := Lib.hid (fun W => impl_IsDiscriminant_any p D hD W)
 have HNO := Lib.hid (fun (j : Nat) F (hj : Fs[j]? = some F) h => ckF_no (p := p) (D := D) hj h)
 have HFM := Lib.hid (fun F (h : F ∈ Fs) W => impl_IsForm_any p D F.1 F.2 hD (hF F h).1 (hF F h).2 W)
 obtain ⟨NL, hNL⟩ : ∃ NL, NL = Fs.length := ⟨_, rfl⟩
 have HNL := Lib.hid hNL
 rw [← hNL] at hlen ⊢
 clear hF
 clear hNL
 have zx_0 := B0.lt
 go_enter Try.func129, Try.ntmps129
 go_upto_region 1 with (fail)
 obtain ⟨W1, hwo⟩ : ∃ v : World, v = (w.alloc (.cells (zb 64 (D)) 23)) := ⟨_, rfl⟩
 have B1 : Blk W1 (w.heap.size) 64 23 (D) := by subst hwo; have := (Blk.new w 64 23 (D)); simpa using this
 replace B0 : Row W1 (bS) 55 (fmL Fs).toArray := by subst hwo; exact (B0.alloc (.cells (zb 64 (D)) 23))
 have hb : Below w.heap.size w W1 := by subst hwo; exact ((Below.refl _ _).alloc (Nat.le_refl _) _)
 rw [← hwo]
 clear hwo
 cases hf : dcB p D with
 | false =>
  have HV := Lib.hid (ckF_d (p := p) (D := D) (Fs := Fs) hf)
  go_upto_region 2 with (first | (refine zla (.tmp 4) B1 Try.underlying23 Try.size23 ?_) | (go_at_call 58; refine (HDC.out _).mono ?_; rintro e W2 ⟨rfl, hW2⟩; replace B0 := B0.zw hW2; replace B1 := B1.zw hW2; replace hb := (hb).trans (hW2.mono (hb).size); rw [hf]))
  go_wp2_with fail
  go_ret
  exact ⟨by rw [HV.out]; rfl, hb⟩
 | true =>
  have HDT := Lib.hid hf
  have HYES := Lib.hid (fun h => ckF_yes (p := p) (D := D) (Fs := Fs) hf h)
  go_upto_region 3 with (first | (refine zla (.tmp 4) B1 Try.underlying23 Try.size23 ?_) | (go_at_call 58; refine (HDC.out _).mono ?_; rintro e W2 ⟨rfl, hW2⟩; replace B0 := B0.zw hW2; replace B1 := B1.zw hW2; replace hb := (hb).trans (hW2.mono (hb).size); rw [hf]))
  clear hf HDC
  go_wp2_with fail
  go_loopw [15] (fun c wr => ∃ j : Nat, c = .int .i64 (j : Int) ∧ j ≤ NL ∧ Hid (∀ (i : Nat) (F : ((Nat → Nat) × (Nat → Nat))), i < j → Fs[i]? = some F → fmB p D F.1 F.2 = true) ∧ Below w.heap.size w wr ∧ Row wr (bS) 55 (fmL Fs).toArray ∧ Blk wr (w.heap.size) 64 23 D) (fun c _ => NL - (intOf c).toNat)
  case atStart => exact ⟨0, rfl, Nat.zero_le _, Lib.hid (fun i F hi => absurd hi (Nat.not_lt_zero i)), hb, B0, B1⟩
  case round =>
   clear hb B0 B1
   obtain ⟨j, rfl, hjn, hall, hb, B0, B1⟩ := hrel
   by_cases hj : j < NL
   · have hjI : (j : Int) < (NL : Int) := by omega
     have hj' : j < Fs.length := by rw [← HNL.out]; exact hj
     obtain ⟨F, hF⟩ : ∃ F, Fs[j]? = some F := ⟨_, List.getElem?_eq_getElem hj'⟩
     have HFJ := Lib.hid hF
     have HSF := Lib.hid (HFM.out F (List.mem_of_getElem? hF))
     clear hF hj'
     cases hr : fmB p D F.1 F.2 with
     | false =>
      have HV := Lib.hid (HNO.out j F HFJ.out hr)
      have HS2 := Lib.hid (show ∀ W, Calls Try.prog 61 #[.int .i64 p, .agg (zb 64 D), .agg (frC F.1 F.2).toArray] W fun e w' => e = .returned (.bool false) ∧ Below W.heap.size W w' from fun W => by
       have := HSF.out W
       rw [show dcB p D = true from HDT.out, hr] at this; exact this)
      clear hr HSF
      go_upto_region 5 with (fail)
      have lt_B0 := B0.lt
      have lt_B1 := B1.lt
      go_upto_region 6 with (first | rw [← z64] | rw [← frC_zero] | (refine wpList_load_mid rfl 55 (.tmp 17) rfl _ (j * 128) rfl (frC F.1 F.2) _ (B0.frAt HFJ.out) Try.underlying55 rfl (by rw [frC_len]; exact Try.size55) ?_) | (refine wpList_store_rowv rfl 55 (.tmp 8) (.tmp 18) rfl _ rfl (frC F.1 F.2).toArray rfl 55 _ ((Row.new wr 55 (frC (fun _ => 0) (fun _ => 0)).toArray)) 128 Try.size55 (by simp [frC_len]) (by simp [frC_len]) (frC_all _ _) ?_; try simp only [Act.put]))
      have lt_B0 := B0.lt
      have lt_B1 := B1.lt
      have lhb := hb.size
      obtain ⟨W3, hwo, hzQ⟩ : ∃ v : World, v = ((wr.alloc (.cells (frC (fun _ => 0) (fun _ => 0)).toArray 55)).setRow (wr.heap.size) (frC F.1 F.2).toArray) ∧ Row v (bS) 55 (fmL Fs).toArray ∧ Blk v (w.heap.size) 64 23 (D) ∧ Row v (wr.heap.size) 55 (frC F.1 F.2).toArray ∧ Below w.heap.size w v := ⟨_, rfl, ((B0.alloc (.cells (frC (fun _ => 0) (fun _ => 0)).toArray 55)).rowOther (by omega)), ((B1.alloc (.cells (frC (fun _ => 0) (fun _ => 0)).toArray 55)).rowOther (by omega)), ((Row.new wr 55 (frC (fun _ => 0) (fun _ => 0)).toArray).row (frC F.1 F.2).toArray), (zr (hb.alloc (by have := hb.size; simp; omega) (.cells (frC (fun _ => 0) (fun _ => 0)).toArray 55)) (by omega) _)⟩
      rw [← hwo]
      clear hwo B0 B1 hb
      obtain ⟨B0, B1, B2, hb⟩ := hzQ
      obtain ⟨N1, hNN⟩ : ∃ n : Nat, n = wr.heap.size := ⟨_, rfl⟩
      rw [← hNN] at lt_B0 lt_B1 lhb B2 ⊢
      clear hNN
      have zN1_0 := lt_B0
      have zN1_1 := lt_B1
      have zN1 := lhb
      clear lt_B0 lt_B1 lhb
      try simp only [Act.put, pA, pB, pC]
      go_upto_region 7 with (first | (refine zla (.tmp 4) B1 Try.underlying23 Try.size23 ?_) | (refine zlr rfl 55 (.tmp 8) rfl _ rfl 55 (frC F.1 F.2).toArray (B2) _ Try.underlying55 rfl 128 Try.size55 (by simp [frC_len]) ?_) | (go_at_call 61; refine (HS2.out _).mono ?_; rintro e W4 ⟨rfl, hW4⟩; replace B0 := B0.zw hW4; replace B1 := B1.zw hW4; replace B2 := B2.zw hW4; replace hb := (hb).trans (hW4.mono (hb).size)))
      go_wp2_with fail
      go_ret
      exact ⟨by rw [HV.out]; rfl, hb⟩
     | true =>
      have HA := Lib.hid (show ∀ (i : Nat) (G : ((Nat → Nat) × (Nat → Nat))), i < j + 1 → Fs[i]? = some G → fmB p D G.1 G.2 = true from fun i G hi hG => by
       by_cases e : i = j
       · subst e; rw [HFJ.out] at hG; injection hG with hG; subst hG; exact hr
       · exact hall.out i G (by omega) hG)
      have HS2 := Lib.hid (show ∀ W, Calls Try.prog 61 #[.int .i64 p, .agg (zb 64 D), .agg (frC F.1 F.2).toArray] W fun e w' => e = .returned (.bool true) ∧ Below W.heap.size W w' from fun W => by
       have := HSF.out W
       rw [show dcB p D = true from HDT.out, hr] at this; exact this)
      clear hr HSF
      go_upto_region 5 with (fail)
      have lt_B0 := B0.lt
      have lt_B1 := B1.lt
      go_upto_region 6 with (first | rw [← z64] | rw [← frC_zero] | (refine wpList_load_mid rfl 55 (.tmp 17) rfl _ (j * 128) rfl (frC F.1 F.2) _ (B0.frAt HFJ.out) Try.underlying55 rfl (by rw [frC_len]; exact Try.size55) ?_) | (refine wpList_store_rowv rfl 55 (.tmp 8) (.tmp 18) rfl _ rfl (frC F.1 F.2).toArray rfl 55 _ ((Row.new wr 55 (frC (fun _ => 0) (fun _ => 0)).toArray)) 128 Try.size55 (by simp [frC_len]) (by simp [frC_len]) (frC_all _ _) ?_; try simp only [Act.put]))
      have lt_B0 := B0.lt
      have lt_B1 := B1.lt
      have lhb := hb.size
      obtain ⟨W3, hwo, hzQ⟩ : ∃ v : World, v = ((wr.alloc (.cells (frC (fun _ => 0) (fun _ => 0)).toArray 55)).setRow (wr.heap.size) (frC F.1 F.2).toArray) ∧ Row v (bS) 55 (fmL Fs).toArray ∧ Blk v (w.heap.size) 64 23 (D) ∧ Row v (wr.heap.size) 55 (frC F.1 F.2).toArray ∧ Below w.heap.size w v := ⟨_, rfl, ((B0.alloc (.cells (frC (fun _ => 0) (fun _ => 0)).toArray 55)).rowOther (by omega)), ((B1.alloc (.cells (frC (fun _ => 0) (fun _ => 0)).toArray 55)).rowOther (by omega)), ((Row.new wr 55 (frC (fun _ => 0) (fun _ => 0)).toArray).row (frC F.1 F.2).toArray), (zr (hb.alloc (by have := hb.size; simp; omega) (.cells (frC (fun _ => 0) (fun _ => 0)).toArray 55)) (by omega) _)⟩
      rw [← hwo]
      clear hwo B0 B1 hb
      obtain ⟨B0, B1, B2, hb⟩ := hzQ
      obtain ⟨N1, hNN⟩ : ∃ n : Nat, n = wr.heap.size := ⟨_, rfl⟩
      rw [← hNN] at lt_B0 lt_B1 lhb B2 ⊢
      clear hNN
      have zN1_0 := lt_B0
      have zN1_1 := lt_B1
      have zN1 := lhb
      clear lt_B0 lt_B1 lhb
      try simp only [Act.put, pA, pB, pC]
      go_upto_region 8 with (first | (refine zla (.tmp 4) B1 Try.underlying23 Try.size23 ?_) | (refine zlr rfl 55 (.tmp 8) rfl _ rfl 55 (frC F.1 F.2).toArray (B2) _ Try.underlying55 rfl 128 Try.size55 (by simp [frC_len]) ?_) | (go_at_call 61; refine (HS2.out _).mono ?_; rintro e W4 ⟨rfl, hW4⟩; replace B0 := B0.zw hW4; replace B1 := B1.zw hW4; replace B2 := B2.zw hW4; replace hb := (hb).trans (hW4.mono (hb).size)))
      go_wp2_with fail
      go_roundw
      case rel => exact ⟨j + 1, by go_num, by omega, HA, hb, B0, B1⟩
      case measure => simp [intOf] <;> omega
   · have hjI : ¬ (j : Int) < (NL : Int) := by omega
     have HV0 := Lib.hid (HYES.out (fun i F hF => hall.out i F (by have := (List.getElem?_eq_some_iff.1 hF).1; have := HNL.out; omega) hF))
     have HV := HV0
     go_wp2_with fail
     go_ret
     exact ⟨by rw [HV.out]; rfl, hb⟩
set_option maxRecDepth 100000 in
set_option maxHeartbeats 3200000 in
theorem l07Code_no (p : Int) (D : Nat → Nat) (hD : byte D) (Fs : List ((Nat → Nat) × (Nat → Nat))) (hF : ∀ F, F ∈ Fs → byte F.1 ∧ byte F.2) (hlen : Fs.length ≤ 8) (bS : Nat) (w : World) (B0 : Row w bS 55 (fmL Fs).toArray) :
 Calls Try.prog 127 #[.int .i64 p, .agg (zb 64 D), .bool false, .slice (some ⟨bS, 0, none⟩) Fs.length Fs.length] w fun e w' => e = .returned (.int .i64 (ckF p D Fs)) ∧ Below w.heap.size w w' := by
 have HDC := Lib.hid (fun W => l07Is_any p D hD W)
 have HNO := Lib.hid (fun (j : Nat) F (hj : Fs[j]? = some F) h => ckF_no (p := p) (D := D) hj h)
 obtain ⟨NL, hNL⟩ : ∃ NL, NL = Fs.length := ⟨_, rfl⟩
 have HNL := Lib.hid hNL
 rw [← hNL] at hlen ⊢
 clear hNL
 have zx_0 := B0.lt
 go_enter Try.func127, Try.ntmps127
 go_upto_region 1 with (fail)
 obtain ⟨W1, hwo⟩ : ∃ v : World, v = (w.alloc (.cells (zb 64 (D)) 23)) := ⟨_, rfl⟩
 have B1 : Blk W1 (w.heap.size) 64 23 (D) := by subst hwo; have := (Blk.new w 64 23 (D)); simpa using this
 replace B0 : Row W1 (bS) 55 (fmL Fs).toArray := by subst hwo; exact (B0.alloc (.cells (zb 64 (D)) 23))
 have hb : Below w.heap.size w W1 := by subst hwo; exact ((Below.refl _ _).alloc (Nat.le_refl _) _)
 rw [← hwo]
 clear hwo
 cases hf : dcB p D with
 | false =>
  have HV := Lib.hid (ckF_d (p := p) (D := D) (Fs := Fs) hf)
  go_upto_region 2 with (first | (refine zla (.tmp 5) B1 Try.underlying23 Try.size23 ?_) | (go_at_call 124; refine (HDC.out _).mono ?_; rintro e W2 ⟨rfl, hW2⟩; replace B0 := B0.zw hW2; replace B1 := B1.zw hW2; replace hb := (hb).trans (hW2.mono (hb).size); rw [hf]))
  go_wp2_with fail
  go_ret
  exact ⟨by rw [HV.out]; rfl, hb⟩
 | true =>
  have HYES := Lib.hid (fun h => ckF_yes (p := p) (D := D) (Fs := Fs) hf h)
  obtain ⟨n, g, rfl, hpr, lD, hg2, hdg⟩ := dcB_out hf
  have HFM := Lib.hid (fun F (h : F ∈ Fs) W => l07Form_any n D F.1 F.2 W hpr lD (hF F h).1 (hF F h).2)
  have hdv : deg D / 2 = (g : Int) := by omega
  clear hF lD hg2 hdg hdv
  go_upto_region 3 with (first | (refine zla (.tmp 5) B1 Try.underlying23 Try.size23 ?_) | (go_at_call 124; refine (HDC.out _).mono ?_; rintro e W2 ⟨rfl, hW2⟩; replace B0 := B0.zw hW2; replace B1 := B1.zw hW2; replace hb := (hb).trans (hW2.mono (hb).size); rw [hf]))
  clear hf HDC
  go_wp2_with fail
  go_loopw [9] (fun c wr => ∃ j : Nat, c = .int .i64 (j : Int) ∧ j ≤ NL ∧ Hid (∀ (i : Nat) (F : ((Nat → Nat) × (Nat → Nat))), i < j → Fs[i]? = some F → fmB (n : Int) D F.1 F.2 = true) ∧ Below w.heap.size w wr ∧ Row wr (bS) 55 (fmL Fs).toArray ∧ Blk wr (w.heap.size) 64 23 D) (fun c _ => NL - (intOf c).toNat)
  case atStart => exact ⟨0, rfl, Nat.zero_le _, Lib.hid (fun i F hi => absurd hi (Nat.not_lt_zero i)), hb, B0, B1⟩
  case round =>
   clear hb B0 B1
   obtain ⟨j, rfl, hjn, hall, hb, B0, B1⟩ := hrel
   by_cases hj : j < NL
   · have hjI : (j : Int) < (NL : Int) := by omega
     have hj' : j < Fs.length := by rw [← HNL.out]; exact hj
     obtain ⟨F, hF⟩ : ∃ F, Fs[j]? = some F := ⟨_, List.getElem?_eq_getElem hj'⟩
     have HFJ := Lib.hid hF
     have HSF := Lib.hid (HFM.out F (List.mem_of_getElem? hF))
     clear hF hj'
     cases hr : fmB (n : Int) D F.1 F.2 with
     | false =>
      have HV := Lib.hid (HNO.out j F HFJ.out hr)
      rw [hr] at HSF
      clear hr
      go_upto_region 6 with (fail)
      refine zq Try.mixed (by kernel_rfl) (by kernel_rfl) (fun v => by (simp only [frL, Act.put, pA, pB, pC, Nat.reduceAdd, Nat.zero_add]; exact rfl))
       (fun L v W3 => Below wr.heap.size wr W3 ∧ VF L v [some (.int .i64 (n : Int)), some (.agg (zb 64 (D))), some (.slice (some ⟨bS, 0, none⟩) NL NL), some (.int .i64 (j : Int)), some (.pointer (some ⟨bS, j * 128, none⟩)), some (.agg (frC F.1 F.2).toArray), some (.bool false), some (.bool true)]) ?_ ?_ ?_
      · intro v hv0
        exact ⟨(Below.refl _ wr).drew, VF.start⟩
      · refine (.cons rfl ?_ (.cons rfl ?_ (.cons rfl ?_ (.cons rfl ?_ (.cons rfl ?_ (.cons rfl ?_ (.cons rfl ?_ (.cons rfl ?_ (.nil _)))))))))
        all_goals intro L v W3 hd hn ⟨hY, V⟩ K hK
        · go_wp2_with fail
          exact hK _ (.int .i64 (n : Int)) _ (by simp only [Act.put, pA, pB, pC ]) ⟨hY, V.step 0 rfl⟩
        · refine zlc (B1.zw hY) Try.underlying23 Try.size23 ?_
          exact hK _ _ _ rfl ⟨hY, V.step 1 rfl⟩
        · go_wp2_with fail
          exact hK _ (.slice (some ⟨bS, 0, none⟩) NL NL) _ (by simp only [Act.put, pA, pB, pC ]) ⟨hY, V.step 2 rfl⟩
        · go_wp2_with fail
          exact hK _ (.int .i64 (j : Int)) _ (by simp only [Act.put, pA, pB, pC ]) ⟨hY, V.step 3 rfl⟩
        · have e2 := V.at (zdq hd 2 rfl) rfl
          have e3 := V.at (zdq hd 3 rfl) rfl
          go_wp2_with fail
          exact hK _ (.pointer (some ⟨bS, j * 128, none⟩)) _ (by simp only [Act.put, pA, pB, pC, e2, e3]) ⟨hY, V.step 4 rfl⟩
        · have e4 := V.at (zdq hd 4 rfl) rfl
          refine wp_load_mid 55 _ rfl _ (j * 128) e4 _ _ ((B0.zw hY).frAt HFJ.out) Try.underlying55 rfl (by rw [frC_len]; exact Try.size55) ?_
          exact hK _ _ _ rfl ⟨hY, V.step 5 rfl⟩
        · have e0 := V.at (zdq hd 0 rfl) rfl
          have e1 := V.at (zdq hd 1 rfl) rfl
          have e5 := V.at (zdq hd 5 rfl) rfl
          go_wp2_with (go_at_call 125; refine (HSF.out _).mono ?_; rintro e wy ⟨rfl, hy⟩)
          exact hK _ (.bool false) _ (by simp only [Act.put, pA, pB, pC, e0, e1, e5]) ⟨hY.trans (hy.mono hY.size), V.step 6 rfl⟩
        · have e6 := V.at (zdq hd 6 rfl) rfl
          go_wp2_with fail
          exact hK _ (.bool true) _ (by simp only [Act.put, pA, pB, pC, e6]) ⟨hY, V.step 7 rfl⟩
      · intro L v W3 hL ⟨hY, V⟩
        have e0 := V.at (hL 0 (by decide)) rfl
        have e1 := V.at (hL 1 (by decide)) rfl
        have e2 := V.at (hL 2 (by decide)) rfl
        have e3 := V.at (hL 3 (by decide)) rfl
        have e4 := V.at (hL 4 (by decide)) rfl
        have e5 := V.at (hL 5 (by decide)) rfl
        have e6 := V.at (hL 6 (by decide)) rfl
        have e7 := V.at (hL 7 (by decide)) rfl
        clear hL V
        replace B0 := B0.zw hY
        replace B1 := B1.zw hY
        replace hb := hb.trans (hY.mono hb.size)
        clear hY
        simp only [Exit.then, e0, e1, e2, e3, e4, e5, e6, e7]
        clear e0 e1 e2 e3 e4 e5 e6 e7
        go_wp2_with fail
        go_ret
        exact ⟨by rw [HV.out]; rfl, hb⟩
     | true =>
      have HA := Lib.hid (show ∀ (i : Nat) (G : ((Nat → Nat) × (Nat → Nat))), i < j + 1 → Fs[i]? = some G → fmB (n : Int) D G.1 G.2 = true from fun i G hi hG => by
       by_cases e : i = j
       · subst e; rw [HFJ.out] at hG; injection hG with hG; subst hG; exact hr
       · exact hall.out i G (by omega) hG)
      rw [hr] at HSF
      clear hr
      go_upto_region 6 with (fail)
      refine zq Try.mixed (by kernel_rfl) (by kernel_rfl) (fun v => by (simp only [frL, Act.put, pA, pB, pC, Nat.reduceAdd, Nat.zero_add]; exact rfl))
       (fun L v W3 => Below wr.heap.size wr W3 ∧ VF L v [some (.int .i64 (n : Int)), some (.agg (zb 64 (D))), some (.slice (some ⟨bS, 0, none⟩) NL NL), some (.int .i64 (j : Int)), some (.pointer (some ⟨bS, j * 128, none⟩)), some (.agg (frC F.1 F.2).toArray), some (.bool true), some (.bool false)]) ?_ ?_ ?_
      · intro v hv0
        exact ⟨(Below.refl _ wr).drew, VF.start⟩
      · refine (.cons rfl ?_ (.cons rfl ?_ (.cons rfl ?_ (.cons rfl ?_ (.cons rfl ?_ (.cons rfl ?_ (.cons rfl ?_ (.cons rfl ?_ (.nil _)))))))))
        all_goals intro L v W3 hd hn ⟨hY, V⟩ K hK
        · go_wp2_with fail
          exact hK _ (.int .i64 (n : Int)) _ (by simp only [Act.put, pA, pB, pC ]) ⟨hY, V.step 0 rfl⟩
        · refine zlc (B1.zw hY) Try.underlying23 Try.size23 ?_
          exact hK _ _ _ rfl ⟨hY, V.step 1 rfl⟩
        · go_wp2_with fail
          exact hK _ (.slice (some ⟨bS, 0, none⟩) NL NL) _ (by simp only [Act.put, pA, pB, pC ]) ⟨hY, V.step 2 rfl⟩
        · go_wp2_with fail
          exact hK _ (.int .i64 (j : Int)) _ (by simp only [Act.put, pA, pB, pC ]) ⟨hY, V.step 3 rfl⟩
        · have e2 := V.at (zdq hd 2 rfl) rfl
          have e3 := V.at (zdq hd 3 rfl) rfl
          go_wp2_with fail
          exact hK _ (.pointer (some ⟨bS, j * 128, none⟩)) _ (by simp only [Act.put, pA, pB, pC, e2, e3]) ⟨hY, V.step 4 rfl⟩
        · have e4 := V.at (zdq hd 4 rfl) rfl
          refine wp_load_mid 55 _ rfl _ (j * 128) e4 _ _ ((B0.zw hY).frAt HFJ.out) Try.underlying55 rfl (by rw [frC_len]; exact Try.size55) ?_
          exact hK _ _ _ rfl ⟨hY, V.step 5 rfl⟩
        · have e0 := V.at (zdq hd 0 rfl) rfl
          have e1 := V.at (zdq hd 1 rfl) rfl
          have e5 := V.at (zdq hd 5 rfl) rfl
          go_wp2_with (go_at_call 125; refine (HSF.out _).mono ?_; rintro e wy ⟨rfl, hy⟩)
          exact hK _ (.bool true) _ (by simp only [Act.put, pA, pB, pC, e0, e1, e5]) ⟨hY.trans (hy.mono hY.size), V.step 6 rfl⟩
        · have e6 := V.at (zdq hd 6 rfl) rfl
          go_wp2_with fail
          exact hK _ (.bool false) _ (by simp only [Act.put, pA, pB, pC, e6]) ⟨hY, V.step 7 rfl⟩
      · intro L v W3 hL ⟨hY, V⟩
        have e0 := V.at (hL 0 (by decide)) rfl
        have e1 := V.at (hL 1 (by decide)) rfl
        have e2 := V.at (hL 2 (by decide)) rfl
        have e3 := V.at (hL 3 (by decide)) rfl
        have e4 := V.at (hL 4 (by decide)) rfl
        have e5 := V.at (hL 5 (by decide)) rfl
        have e6 := V.at (hL 6 (by decide)) rfl
        have e7 := V.at (hL 7 (by decide)) rfl
        clear hL V
        replace B0 := B0.zw hY
        replace B1 := B1.zw hY
        replace hb := hb.trans (hY.mono hb.size)
        clear hY
        simp only [Exit.then, e0, e1, e2, e3, e4, e5, e6, e7]
        clear e0 e1 e2 e3 e4 e5 e6 e7
        go_wp2_with fail
        go_roundw
        case rel => exact ⟨j + 1, by go_num, by omega, HA, hb, B0, B1⟩
        case measure => simp [intOf] <;> omega
   · have hjI : ¬ (j : Int) < (NL : Int) := by omega
     have HV0 := Lib.hid (HYES.out (fun i F hF => hall.out i F (by have := (List.getElem?_eq_some_iff.1 hF).1; have := HNL.out; omega) hF))
     have HV := HV0
     clear HV0 hall
     go_wp2_with fail
     go_loopw [10] (fun c wr => c = .int .i64 0 ∧ Below w.heap.size w wr) (fun _ _ => 0)
     case atStart => exact ⟨rfl, hb⟩
     case round =>
      clear hb
      obtain ⟨rfl, hb⟩ := hrel
      go_wp2_with fail
      all_goals go_ret
      all_goals exact ⟨by rw [HV.out]; rfl, hb⟩
end Go.Proofs.Ytoncepgcfifgbaa
end
section
namespace Go.Proofs.Ytoncepgcfifgbaa
open Go Go.RowKit
set_option linter.unusedVariables false
set_option linter.unusedSimpArgs false
attribute [local irreducible] deg invN quoP resP prd bzD bzU bzW sqP ngP mkP okA monB dvN rdR
theorem ckF_fm {p : Int} {D A B : Nat → Nat} {Fs : List ((Nat → Nat) × (Nat → Nat))} (h : ckF p D Fs = 0) (hm : (A, B) ∈ Fs) : ∃ n g : Nat, p = (n : Int) ∧ (n = 2 ∨ n = 3 ∨ n = 5 ∨ n = 7) ∧ (∀ k, k < 64 → D k < n) ∧ g ≤ 2 ∧ deg D = ((2 * g + 1 : Nat) : Int) ∧ ∀ F, F ∈ Fs → fmI n D F.1 F.2 := by
 obtain ⟨h1, h2⟩ := ckF_zero h
 obtain ⟨n, g, rfl, hpr, lD, hg, hD⟩ := dcB_out h1
 exact ⟨n, g, rfl, hpr, lD, hg, hD, fun F hF => fmB_out hpr (h2 F hF)⟩
set_option maxRecDepth 100000 in
set_option maxHeartbeats 3200000 in
theorem toForm_any (A B : Nat → Nat) (hA : byte A) (hB : byte B) (w : World) :
 Calls Try.prog 60 #[.agg (frC A B).toArray] w fun e w' => e = .returned (.agg (frC A B).toArray) ∧ Below w.heap.size w w' := by
 go_enter Try.func60, Try.ntmps60
 go_upto_region 1 with (fail)
 rw [← frC_zero]
 obtain ⟨W1, hwo⟩ : ∃ v : World, v = ((w.alloc (.cells (frC A B).toArray 52)).alloc (.cells (frC (fun _ => 0) (fun _ => 0)).toArray 55)) := ⟨_, rfl⟩
 have B0 : Row W1 (w.heap.size) 52 (frC A B).toArray := by subst hwo; have := ((Row.new w 52 (frC A B).toArray).alloc (.cells (frC (fun _ => 0) (fun _ => 0)).toArray 55)); simpa using this
 have B1 : Row W1 (w.heap.size + 1) 55 (frC (fun _ => 0) (fun _ => 0)).toArray := by subst hwo; have := (Row.new (w.alloc (.cells (frC A B).toArray 52)) 55 (frC (fun _ => 0) (fun _ => 0)).toArray); simpa using this
 have hb : Below w.heap.size w W1 := by subst hwo; exact (((Below.refl _ _).alloc (Nat.le_refl _) _).alloc (by simp) _)
 rw [← hwo]
 clear hwo
 go_upto_region 2 with (first | rw [← z64] | rw [← frC_zero])
 have lt_B0 := B0.lt
 have lt_B1 := B1.lt
 have lhb := hb.size
 obtain ⟨W2, hwo, hzQ⟩ : ∃ v : World, v = (W1.alloc (.cells (frC (fun _ => 0) (fun _ => 0)).toArray 55)) ∧ Row v (w.heap.size) 52 (frC A B).toArray ∧ Row v (w.heap.size + 1) 55 (frC (fun _ => 0) (fun _ => 0)).toArray ∧ Row v (W1.heap.size) 55 (frC (fun _ => 0) (fun _ => 0)).toArray ∧ Below w.heap.size w v := ⟨_, rfl, (B0.alloc (.cells (frC (fun _ => 0) (fun _ => 0)).toArray 55)), (B1.alloc (.cells (frC (fun _ => 0) (fun _ => 0)).toArray 55)), (Row.new W1 55 (frC (fun _ => 0) (fun _ => 0)).toArray), (hb.alloc (by have := hb.size; simp; omega) (.cells (frC (fun _ => 0) (fun _ => 0)).toArray 55))⟩
 rw [← hwo]
 clear hwo B0 B1 hb
 obtain ⟨B0, B1, B2, hb⟩ := hzQ
 obtain ⟨N1, hNN⟩ : ∃ n : Nat, n = W1.heap.size := ⟨_, rfl⟩
 rw [← hNN] at lt_B0 lt_B1 lhb B2 ⊢
 clear hNN
 have zN1_0 := lt_B0
 have zN1_1 := lt_B1
 have zN1 := lhb
 clear lt_B0 lt_B1 lhb
 try simp only [Act.put, pA, pB, pC]
 have lt_B0 := B0.lt
 have lt_B1 := B1.lt
 have lt_B2 := B2.lt
 go_upto_region 3 with (first | rw [← z64] | (refine wpList_load_mid rfl 22 (.tmp 4) rfl _ 0 rfl (bl 64 A) _ (B0.fra) Try.underlying22 rfl (by rw [zl]; exact Try.size22) ?_) | (go_at_call 26; with_reducible refine (toPoly_any A hA _).mono ?_; rintro e W3 ⟨rfl, hW3⟩; replace B0 := B0.zw hW3; replace B1 := B1.zw hW3; replace B2 := B2.zw hW3; replace hb := (hb).trans (hW3.mono (hb).size)) | (refine wpList_store_part rfl 23 (.tmp 7) (.tmp 6) rfl _ 0 (A) rfl rfl 55 _ (frC A (fun _ => 0)).toArray (B2) (frC_a _ _ _) (by first | decide | simp [frC_len]) Try.size23 ?_; try simp only [Act.put]))
 obtain ⟨W4, hwo, hzQ⟩ : ∃ v : World, v = (W3.setRow (N1) (frC A (fun _ => 0)).toArray) ∧ Row v (w.heap.size) 52 (frC A B).toArray ∧ Row v (w.heap.size + 1) 55 (frC (fun _ => 0) (fun _ => 0)).toArray ∧ Row v (N1) 55 (frC A (fun _ => 0)).toArray ∧ Below w.heap.size w v := ⟨_, rfl, (B0.rowOther (by omega)), (B1.rowOther (by omega)), (B2.row (frC A (fun _ => 0)).toArray), (zr hb (by omega) _)⟩
 rw [← hwo]
 clear hwo B0 B1 B2 hb
 obtain ⟨B0, B1, B2, hb⟩ := hzQ
 try simp only [Act.put, pA, pB, pC]
 have lt_B0 := B0.lt
 have lt_B1 := B1.lt
 have lt_B2 := B2.lt
 go_upto_region 4 with (first | rw [← z64] | (refine wpList_load_mid rfl 22 (.tmp 8) rfl _ 64 rfl (bl 64 B) _ (B0.frb) Try.underlying22 rfl (by rw [zl]; exact Try.size22) ?_) | (go_at_call 26; with_reducible refine (toPoly_any B hB _).mono ?_; rintro e W5 ⟨rfl, hW5⟩; replace B0 := B0.zw hW5; replace B1 := B1.zw hW5; replace B2 := B2.zw hW5; replace hb := (hb).trans (hW5.mono (hb).size)) | (refine wpList_store_part rfl 23 (.tmp 11) (.tmp 10) rfl _ 64 (B) rfl rfl 55 _ (frC A B).toArray (B2) (frC_b _ _ _) (by first | decide | simp [frC_len]) Try.size23 ?_; try simp only [Act.put]))
 obtain ⟨W6, hwo, hzQ⟩ : ∃ v : World, v = (W5.setRow (N1) (frC A B).toArray) ∧ Row v (w.heap.size) 52 (frC A B).toArray ∧ Row v (w.heap.size + 1) 55 (frC (fun _ => 0) (fun _ => 0)).toArray ∧ Row v (N1) 55 (frC A B).toArray ∧ Below w.heap.size w v := ⟨_, rfl, (B0.rowOther (by omega)), (B1.rowOther (by omega)), (B2.row (frC A B).toArray), (zr hb (by omega) _)⟩
 rw [← hwo]
 clear hwo B0 B1 B2 hb
 obtain ⟨B0, B1, B2, hb⟩ := hzQ
 try simp only [Act.put, pA, pB, pC]
 have lt_B0 := B0.lt
 have lt_B1 := B1.lt
 have lt_B2 := B2.lt
 go_wp2_with (first | rw [← z64] | (refine zlr rfl 55 (.tmp 3) rfl _ rfl 55 (frC A B).toArray (B2) _ Try.underlying55 rfl 128 Try.size55 (by simp [frC_len]) ?_) | (refine wpList_store_rowv rfl 55 (.tmp 2) (.tmp 12) rfl _ rfl (frC A B).toArray rfl 55 _ (B1) 128 Try.size55 (by simp [frC_len]) (by simp [frC_len]) (frC_all _ _) ?_; try simp only [Act.put]))
 obtain ⟨W7, hwo, hzQ⟩ : ∃ v : World, v = (W6.setRow (w.heap.size + 1) (frC A B).toArray) ∧ Row v (w.heap.size) 52 (frC A B).toArray ∧ Row v (w.heap.size + 1) 55 (frC A B).toArray ∧ Row v (N1) 55 (frC A B).toArray ∧ Below w.heap.size w v := ⟨_, rfl, (B0.rowOther (by omega)), (B1.row (frC A B).toArray), (B2.rowOther (by omega)), (zr hb (by omega) _)⟩
 rw [← hwo]
 clear hwo B0 B1 B2 hb
 obtain ⟨B0, B1, B2, hb⟩ := hzQ
 try simp only [Act.put, pA, pB, pC]
 refine bodyPost_ret (results_row rfl _ _ _ _ _ rfl B1 _ Try.underlying55 rfl (by rw [Try.size55]; simp [frC_len])) rfl ⟨rfl, hb⟩
set_option maxRecDepth 100000 in
set_option maxHeartbeats 3200000 in
theorem eqForm_same (A B : Nat → Nat) (w : World) :
 Calls Try.prog 64 #[.agg (frC A B).toArray, .agg (frC A B).toArray] w fun e w' => e = .returned (.bool true) ∧ Below w.heap.size w w' := by
 go_enter Try.func64, Try.ntmps64
 go_upto_region 1 with (fail)
 obtain ⟨W1, hwo⟩ : ∃ v : World, v = ((w.alloc (.cells (frC A B).toArray 55)).alloc (.cells (frC A B).toArray 55)) := ⟨_, rfl⟩
 have B0 : Row W1 (w.heap.size) 55 (frC A B).toArray := by subst hwo; have := ((Row.new w 55 (frC A B).toArray).alloc (.cells (frC A B).toArray 55)); simpa using this
 have B1 : Row W1 (w.heap.size + 1) 55 (frC A B).toArray := by subst hwo; have := (Row.new (w.alloc (.cells (frC A B).toArray 55)) 55 (frC A B).toArray); simpa using this
 have hb : Below w.heap.size w W1 := by subst hwo; exact (((Below.refl _ _).alloc (Nat.le_refl _) _).alloc (by simp) _)
 rw [← hwo]
 clear hwo
 go_upto_region 3 with (first | (refine wpList_load_mid rfl 23 (.tmp 5) rfl _ 0 rfl (bl 64 A) _ (B0.fra) Try.underlying23 rfl (by rw [zl]; exact Try.size23) ?_) | (refine wpList_load_mid rfl 23 (.tmp 7) rfl _ 0 rfl (bl 64 A) _ (B1.fra) Try.underlying23 rfl (by rw [zl]; exact Try.size23) ?_) | (go_at_call 28; refine (eqPoly_same _ _ (fun _ _ => rfl) _).mono ?_; rintro e W2 ⟨rfl, hW2⟩; replace B0 := B0.zw hW2; replace B1 := B1.zw hW2; replace hb := (hb).trans (hW2.mono (hb).size)))
 go_upto_region 5 with (first | (refine wpList_load_mid rfl 23 (.tmp 11) rfl _ 64 rfl (bl 64 B) _ (B0.frb) Try.underlying23 rfl (by rw [zl]; exact Try.size23) ?_) | (refine wpList_load_mid rfl 23 (.tmp 13) rfl _ 64 rfl (bl 64 B) _ (B1.frb) Try.underlying23 rfl (by rw [zl]; exact Try.size23) ?_) | (go_at_call 28; refine (eqPoly_same _ _ (fun _ _ => rfl) _).mono ?_; rintro e W3 ⟨rfl, hW3⟩; replace B0 := B0.zw hW3; replace B1 := B1.zw hW3; replace hb := (hb).trans (hW3.mono (hb).size)))
 go_wp2_with fail
 go_ret
 exact ⟨rfl, hb⟩
end Go.Proofs.Ytoncepgcfifgbaa
end
section
namespace Go.Proofs.Ytoncepgcfifgbaa
open Go.ChangeShapes Go.WideShapes Go.ChangeAt Go.RowKit
section
variable {H : Type} {enc : TypeId × Value → H} {P : Program}
theorem trod_int_to {e : TypeId} {k : IntKind} (he : P.underlying e = some (.int k)) {w : World} (w' : World) {b : Nat} (b' : Nat) {s : Nat → Bool} (s' : Nat → Bool) {h : Bool} (h' : Bool) {m : Nat} {c : List Value} {x : DataW H × List MemPlace}
 (hx : DataW.trod enc P w b s h m e c = some x) : DataW.trod enc P w' b' s' h' m e c = some x := by
 cases m with
 | zero => simp [DataW.trod] at hx
 | succ m =>
  obtain ⟨n, rfl, rfl, hw⟩ := DataW.trod_int he hx
  unfold DataW.trod
  rw [he]
  simp [hw]
theorem trod_int_same {e : TypeId} {k : IntKind} (he : P.underlying e = some (.int k)) (w w' : World) (b b' : Nat) (s s' : Nat → Bool) (h h' : Bool) (m : Nat) (c : List Value) :
 DataW.trod enc P w b s h m e c = DataW.trod enc P w' b' s' h' m e c := by
 cases h1 : DataW.trod enc P w b s h m e c with
 | some x => rw [trod_int_to he w' b' s' h' h1]
 | none =>
  cases h2 : DataW.trod enc P w' b' s' h' m e c with
  | none => rfl
  | some x => rw [trod_int_to he w b s h h2] at h1; cases h1
theorem open_barr {t e : TypeId} {n : Nat} {w : World} {r : Reach} {b0 base : Nat} {spare : Nat → Bool} {held : Bool} {v : Value} {d : DataW H} {p : List MemPlace}
 (ht : P.underlying t = some (.array n e)) (he : P.underlying e = some (.int .u8)) (hC : P.cellsOf t = n) (hCe : P.cellsOf e = 1)
 (hv : Value.okWide P w r b0 t v) (h : DataW.Trod enc P w base spare held t v d p) :
 ∃ f : Nat → Nat, byte f ∧ v = .agg (zb n f) ∧ p = [] ∧ ∀ (w' : World) (base' : Nat) (spare' : Nat → Bool) (held' : Bool), DataW.Trod enc P w' base' spare' held' t v d [] := by
 unfold Value.okWide at hv
 rw [ht] at hv
 obtain ⟨cs, rfl, hsz, _⟩ := hv
 obtain ⟨fuel, hf⟩ := h
 obtain ⟨xs, m, hm, hx, hlen, hxl, hel⟩ := DataW.trod_array ht hf
 subst hm
 have hcs : cs.size = n := by rw [hsz, hC]
 have each : ∀ i, i < n → ∃ k : Nat, k < 256 ∧ cs[i]? = some (.int .u8 (k : Int)) ∧ xs[i]? = some (.lit (.int .u8 (k : Int)), []) := by
  intro i hi
  have h1 := hel i hi
  have hxi : xs[i]? = some (xs[i]'(by omega)) := List.getElem?_eq_getElem (by omega)
  rw [hxi, hCe] at h1
  obtain ⟨z, hz1, hz2, hz3⟩ := DataW.trod_int he h1
  have hb := bounds_u8 hz3
  obtain ⟨k, rfl⟩ := Int.eq_ofNat_of_zero_le hb.1
  refine ⟨k, by omega, ?_, by rw [hxi, hz2]⟩
  have h2 : ((cs.toList.drop (i * 1)).take 1)[0]? = some (.int .u8 (k : Int)) := by
   have h3 : (Value.agg cs).cells.toList = cs.toList := rfl
   rw [← h3, hz1]; rfl
  simpa using h2
 refine ⟨fun i => match cs[i]? with | some (.int _ z) => if i < n then z.toNat else 0 | _ => 0, ?_, ?_, ?_, ?_⟩
 · intro i
   by_cases hi : i < n
   · obtain ⟨k, hk, hc, _⟩ := each i hi
     simp only [hc, hi, if_true, Int.toNat_natCast]
     exact hk
   · have : cs[i]? = none := Array.getElem?_eq_none (by omega)
     simp [this]
 · congr 1
   apply Array.ext_getElem?
   intro i
   by_cases hi : i < n
   · obtain ⟨k, hk, hc, _⟩ := each i hi
     rw [bcells_get hi]
     simp only [hc, hi, if_true, Int.toNat_natCast]
   · rw [Array.getElem?_eq_none (by omega), Array.getElem?_eq_none (by rw [zbs]; omega)]
 · have hp : p = xs.flatMap (·.2) := by simpa using congrArg Prod.snd hx
   rw [hp]
   rw [List.flatMap_eq_nil_iff]
   intro x hxm
   obtain ⟨i, hi⟩ := List.getElem?_of_mem hxm
   have hin : i < n := by rw [← hxl]; exact (List.getElem?_eq_some_iff.1 hi).1
   obtain ⟨k, _, _, h2⟩ := each i hin
   rw [hi] at h2
   injection h2 with h2
   rw [h2]
 · intro w' base' spare' held'
   refine ⟨m + 1, ?_⟩
   have e1 : DataW.trod enc P w' base' spare' held' (m + 1) t (Value.agg cs).cells.toList = DataW.trod enc P w base spare held (m + 1) t (Value.agg cs).cells.toList := by
    unfold DataW.trod
    rw [ht]
    simp only [trod_int_same he w' w base' base spare' spare held' held m]
   rw [e1, hf]
   have hp : p = xs.flatMap (·.2) := by simpa using congrArg Prod.snd hx
   have : p = [] := by
    rw [hp, List.flatMap_eq_nil_iff]
    intro x hxm
    obtain ⟨i, hi⟩ := List.getElem?_of_mem hxm
    have hin : i < n := by rw [← hxl]; exact (List.getElem?_eq_some_iff.1 hi).1
    obtain ⟨k, _, _, h2⟩ := each i hin
    rw [hi] at h2
    injection h2 with h2
    rw [h2]
   rw [this]
/-- the row's last step where the call has only made new memory, and the row does not say 'again' -/
theorem post_of_below0 {f : Func} {s : ChangeSpec} {apart fresh handsOn : Bool} {W W' : World} {args : Array Value} {v : Value} {ds gs : List (DataW H)} {before pa pv : List MemPlace}
 (hW : DataW.Whole enc P f.params.toList s.vars apart W args.toList ds gs before)
 (hres : ∀ (b : Nat) (sp : Nat → Bool) (hd : Bool), DataW.TrodAll enc P W' b sp hd f.resultTypes.toList (v.resultList f.resultTypes.size) (s.fn H (ds ++ gs)).results [])
 (hargs : ∀ sp : Nat → Bool, (∀ p ∈ before, sp p.block = true) → DataW.TrodAll enc P W' 0 sp true f.params.toList args.toList (s.fn H (ds ++ gs)).args pa)
 (hvars : ∀ sp : Nat → Bool, (∀ p ∈ before, sp p.block = true) → DataW.TrodVars enc P W' sp s.vars (s.fn H (ds ++ gs)).vars pv)
 (hps : before = pa ++ pv) (hb : Below W.heap.size W W') : s.post enc P f apart fresh handsOn false W args v W' := by
 have held : ∀ p ∈ before, (fun b => decide (b < W.heap.size)) p.block = true := fun p hp => by simpa using hW.lt p hp
 refine ⟨ds, gs, before, [], pa, pv, hW, hres _ _ _, hargs _ held, hvars _ held, ?_, fun h => by cases h⟩
 refine World.keptBut_mono (fun p hp => ⟨hp, .inr ?_⟩) (hb.frame (· ∈ before))
 rw [hps, List.mem_append] at hp
 exact hp
end
end Go.Proofs.Ytoncepgcfifgbaa
end
section
namespace Go.Proofs.Ytoncepgcfifgbaa
open Go
def cutW : List Char := [Char.ofNat 99, Char.ofNat 117, Char.ofNat 116]
theorem strip_cut (rest : List (List Char)) : stripLifts liftWords (cutW :: rest) = ([], cutW :: rest) := by
 have key : ∀ os : List String, (os.all fun o => !(cutW == o.toList)) = true → stripLifts os (cutW :: rest) = ([], cutW :: rest) := by
  intro os
  induction os with
  | nil => intro _; rfl
  | cons o os ih =>
   intro h
   simp only [List.all_cons, Bool.and_eq_true, Bool.not_eq_true'] at h
   unfold stripLifts
   rw [h.1]
   exact ih h.2
 exact key _ (by decide +kernel)
theorem make_cut {P : Program} {rest : List (List Char)} (h : behindMainWord (wordsSigns P.initOrder.toList) = cutW :: rest) : P.make = some .cut := by
 unfold Program.make
 rw [h]
 have e1 : (cutW == "gc".toList || cutW == "spec".toList) = false := by decide +kernel
 have e2 : (cutW == "cut".toList) = true := by decide +kernel
 simp only [e1, e2, Bool.true_or]
 rfl
theorem mayEnter_cut {P : Program} {rest : List (List Char)} (h : behindMainWord (wordsSigns P.initOrder.toList) = cutW :: rest) (h1 : P.laysLater = false) (h2 : P.bearsReflect = false) (h3 : P.doorFits [] = true) : P.mayEnter = true := by
 unfold Program.mayEnter
 rw [h]
 have e2 : (some cutW == some "cut".toList) = true := by decide +kernel
 simp only [strip_cut, h1, h2, h3, List.head?_cons, e2]
 simp
theorem lifts_cut {P : Program} {rest : List (List Char)} (h : behindMainWord (wordsSigns P.initOrder.toList) = cutW :: rest) : P.liftsFinal = false := by
 unfold Program.liftsFinal Program.headLifts
 rw [h]
 have e2 : (some cutW == some "cut".toList) = true := by decide +kernel
 have e3 : (some cutW == some "carried".toList) = false := by decide +kernel
 simp only [strip_cut, List.head?_cons, e2, e3]
 simp
/-- the signs of the head, and its words behind the first three -/
def initRest : List (List Nat) := [[97, 116], [108, 111, 111, 112, 46, 101, 120, 97, 109, 112, 108, 101, 47, 103, 48, 49, 50, 52, 53, 47, 108, 97, 119, 115, 46, 70, 110, 69, 120, 97, 99, 116, 68, 101, 114, 105, 118, 97, 116, 105, 118, 101, 79, 102], [108, 111, 111, 112, 46, 101, 120, 97, 109, 112, 108, 101, 47, 103, 48, 49, 50, 52, 53, 47, 108, 97, 119, 115, 46, 70, 110, 69, 120, 97, 99, 116, 80, 111, 119, 101, 114, 79, 102], [108, 111, 111, 112, 46, 101, 120, 97, 109, 112, 108, 101, 47, 103, 48, 49, 50, 52, 53, 47, 108, 97, 119, 115, 46, 70, 110, 69, 120, 97, 99, 116, 80, 111, 119, 101, 114, 77, 111, 100, 117, 108, 111], [108, 111, 111, 112, 46, 101, 120, 97, 109, 112, 108, 101, 47, 103, 48, 49, 50, 52, 53, 47, 108, 97, 119, 115, 46, 70, 110, 69, 120, 97, 99, 116, 77, 111, 110, 105, 99, 80, 111, 108, 121, 115], [108, 111, 111, 112, 46, 101, 120, 97, 109, 112, 108, 101, 47, 103, 48, 49, 50, 52, 53, 47, 108, 97, 119, 115, 46, 70, 110, 69, 120, 97, 99, 116, 73, 115, 73, 114, 114, 101, 100, 117, 99, 105, 98, 108, 101], [108, 111, 111, 112, 46, 101, 120, 97, 109, 112, 108, 101, 47, 103, 48, 49, 50, 52, 53, 47, 108, 97, 119, 115, 46, 70, 110, 69, 120, 97, 99, 116, 73, 114, 114, 101, 100, 117, 99, 105, 98, 108, 101, 115, 79, 102], [108, 111, 111, 112, 46, 101, 120, 97, 109, 112, 108, 101, 47, 103, 48, 49, 50, 52, 53, 47, 108, 97, 119, 115, 46, 70, 110, 69, 120, 97, 99, 116, 70, 97, 99, 116, 111, 114, 115, 79, 102], [108, 111, 111, 112, 46, 101, 120, 97, 109, 112, 108, 101, 47, 103, 48, 49, 50, 52, 53, 47, 108, 97, 119, 115, 46, 70, 110, 69, 120, 97, 99, 116, 77, 111, 101, 98, 105, 117, 115, 79, 102], [108, 111, 111, 112, 46, 101, 120, 97, 109, 112, 108, 101, 47, 103, 48, 49, 50, 52, 53, 47, 108, 97, 119, 115, 46, 70, 110, 69, 120, 97, 99, 116, 69, 117, 108, 101, 114, 79, 102], [108, 111, 111, 112, 46, 101, 120, 97, 109, 112, 108, 101, 47, 103, 48, 49, 50, 52, 53, 47, 108, 97, 119, 115, 46, 70, 110, 69, 120, 97, 99, 116, 79, 114, 100, 101, 114, 77, 111, 100, 117, 108, 111], [108, 111, 111, 112, 46, 101, 120, 97, 109, 112, 108, 101, 47, 103, 48, 49, 50, 52, 53, 47, 108, 97, 119, 115, 46, 70, 110, 69, 120, 97, 99, 116, 80, 114, 105, 109, 105, 116, 105, 118, 101, 79, 102], [108, 111, 111, 112, 46, 101, 120, 97, 109, 112, 108, 101, 47, 103, 48, 49, 50, 52, 53, 47, 108, 97, 119, 115, 46, 70, 110, 69, 120, 97, 99, 116, 73, 115, 70, 105, 101, 108, 100], [108, 111, 111, 112, 46, 101, 120, 97, 109, 112, 108, 101, 47, 103, 48, 49, 50, 52, 53, 47, 108, 97, 119, 115, 46, 70, 110, 69, 120, 97, 99, 116, 73, 115, 68, 105, 115, 99, 114, 105, 109, 105, 110, 97, 110, 116], [108, 111, 111, 112, 46, 101, 120, 97, 109, 112, 108, 101, 47, 103, 48, 49, 50, 52, 53, 47, 108, 97, 119, 115, 46, 70, 110, 69, 120, 97, 99, 116, 73, 115, 70, 111, 114, 109], [108, 111, 111, 112, 46, 101, 120, 97, 109, 112, 108, 101, 47, 103, 48, 49, 50, 52, 53, 47, 108, 97, 119, 115, 46, 70, 110, 69, 120, 97, 99, 116, 82, 101, 100, 117, 99, 101, 70, 111, 114, 109], [108, 111, 111, 112, 46, 101, 120, 97, 109, 112, 108, 101, 47, 103, 48, 49, 50, 52, 53, 47, 108, 97, 119, 115, 46, 70, 110, 69, 120, 97, 99, 116, 82, 101, 100, 117, 99, 101, 100, 70, 111, 114, 109, 115], [108, 111, 111, 112, 46, 101, 120, 97, 109, 112, 108, 101, 47, 103, 48, 49, 50, 52, 53, 47, 108, 97, 119, 115, 46, 70, 110, 69, 120, 97, 99, 116, 67, 108, 97, 115, 115, 78, 117, 109, 98, 101, 114], [108, 111, 111, 112, 46, 101, 120, 97, 109, 112, 108, 101, 47, 103, 48, 49, 50, 52, 53, 47, 108, 97, 119, 115, 46, 70, 110, 69, 120, 97, 99, 116, 67, 111, 109, 112, 111, 115, 101, 70, 111, 114, 109, 115], [108, 111, 111, 112, 46, 101, 120, 97, 109, 112, 108, 101, 47, 103, 48, 49, 50, 52, 53, 47, 108, 97, 119, 115, 46, 70, 110, 69, 120, 97, 99, 116, 73, 110, 118, 101, 114, 115, 101, 70, 111, 114, 109], [108, 111, 111, 112, 46, 101, 120, 97, 109, 112, 108, 101, 47, 103, 48, 49, 50, 52, 53, 47, 108, 97, 119, 115, 46, 70, 110, 69, 120, 97, 99, 116, 80, 111, 119, 101, 114, 79, 102, 70, 111, 114, 109], [108, 111, 111, 112, 46, 101, 120, 97, 109, 112, 108, 101, 47, 103, 48, 49, 50, 52, 53, 47, 108, 97, 119, 115, 46, 70, 110, 69, 120, 97, 99, 116, 79, 114, 100, 101, 114, 79, 102, 70, 111, 114, 109], [108, 111, 111, 112, 46, 101, 120, 97, 109, 112, 108, 101, 47, 103, 48, 49, 50, 52, 53, 47, 108, 97, 119, 115, 46, 70, 110, 69, 120, 97, 99, 116, 71, 114, 111, 117, 112, 79, 114, 100, 101, 114, 115]]
def initSigns : List Nat := [104, 97, 114, 110, 101, 115, 115, 32, 54, 99, 102, 49, 53, 49, 53, 53, 52, 52, 52, 99, 55, 99, 57, 49, 55, 97, 101, 98, 56, 53, 98, 101, 56, 49, 49, 51, 101, 55, 102, 51, 55, 49, 102, 53, 49, 49, 53, 98, 55, 51, 55, 54, 53, 100, 53, 55, 49, 55, 50, 97, 102, 52, 98, 51, 97, 98, 97, 55, 100, 98, 53, 50, 32, 99, 117, 116] ++ initRest.flatMap fun x => 32 :: x
theorem init_split : behindMainWord (wordsSigns (initSigns.map Char.ofNat)) = cutW :: initRest.map (fun w => w.map Char.ofNat) := by kernel_rfl
theorem init_order : Try.prog.initOrder = String.ofList (initSigns.map Char.ofNat) := by kernel_rfl
theorem init_cut : behindMainWord (wordsSigns Try.prog.initOrder.toList) = cutW :: initRest.map (fun w => w.map Char.ofNat) :=
 (congrArg (fun s : String => behindMainWord (wordsSigns s.toList)) init_order).trans ((congrArg (fun l => behindMainWord (wordsSigns l)) String.toList_ofList).trans init_split)
theorem Try.laysLater : Try.prog.laysLater = false := by kernel_rfl
theorem Try.bearsReflect : Try.prog.bearsReflect = false := by kernel_rfl
theorem Try.doorFits : Try.prog.doorFits [] = true := by kernel_rfl
theorem Try.mayEnter : Try.pinned.checked.prog.mayEnter = true := mayEnter_cut init_cut Try.laysLater Try.bearsReflect Try.doorFits
theorem Try.liftsFinal : Try.pinned.checked.prog.liftsFinal = false := lifts_cut init_cut
theorem Try.make : Try.pinned.checked.prog.make = some .cut := make_cut init_cut
end Go.Proofs.Ytoncepgcfifgbaa
end
section
namespace Go.Proofs.Ytoncepgcfifgbaa
open Go.ChangeShapes Go.WideShapes Go.ChangeAt Go.RowKit
set_option linter.unusedVariables false
section
variable {H : Type} {enc : TypeId × Value → H} {P : Program}
theorem trod_barr_same {e u n : Nat} {k : IntKind} (he : P.underlying e = some (.array n u)) (hu : P.underlying u = some (.int k)) (w w' : World) (b b' : Nat) (s s' : Nat → Bool) (h h' : Bool) (m : Nat) (c : List Value) :
 DataW.trod enc P w b s h m e c = DataW.trod enc P w' b' s' h' m e c := by
 cases m with
 | zero => simp [DataW.trod]
 | succ m =>
  unfold DataW.trod
  rw [he]
  simp only [trod_int_same hu w w' b b' s s' h h' m]
end
end Go.Proofs.Ytoncepgcfifgbaa
end
section
namespace Go.Proofs.Ytoncepgcfifgbaa
open Go.ChangeShapes Go.WideShapes Go.ChangeAt Go.RowKit
set_option linter.unusedVariables false
section
variable {H : Type} {enc : TypeId × Value → H} {P : Program}
theorem trod_bytes {e u : TypeId} {w : World} {base m : Nat} {spare : Nat → Bool} {held : Bool} {c : List Value} {x : DataW H × List MemPlace}
 (he : P.underlying e = some (.array 64 u)) (hu : P.underlying u = some (.int .u8)) (hCe : P.cellsOf e = 64) (hCu : P.cellsOf u = 1) (h : DataW.trod enc P w base spare held m e c = some x) :
 (∃ g, byte g ∧ c = bl 64 g) ∧ x.2 = [] := by
 obtain ⟨ys, m2, hm2, hx2, hlen2, hyl, hel2⟩ := DataW.trod_array he h
 have byt : ∀ j, j < 64 → ∃ k : Nat, k < 256 ∧ c[j]? = some (.int .u8 (k : Int)) ∧ ys[j]? = some (.lit (.int .u8 (k : Int)), []) := by
  intro j hj
  have h3 := hel2 j hj
  have hyj : ys[j]? = some (ys[j]'(by omega)) := List.getElem?_eq_getElem (by omega)
  rw [hyj, hCu] at h3
  obtain ⟨z, hz1, hz2, hz3⟩ := DataW.trod_int hu h3
  have hb := bounds_u8 hz3
  obtain ⟨k, rfl⟩ := Int.eq_ofNat_of_zero_le hb.1
  refine ⟨k, by omega, ?_, by rw [hyj, hz2]⟩
  have h4 : ((c.drop (j * 1)).take 1)[0]? = some (.int .u8 (k : Int)) := by
   rw [hz1]; rfl
  simp only [List.getElem?_take, List.getElem?_drop, Nat.mul_one, Nat.add_zero, Nat.lt_add_one, if_true] at h4
  exact h4
 refine ⟨⟨fun i => match c[i]? with | some (.int _ z) => if i < 64 then z.toNat else 0 | _ => 0, ?_, ?_⟩, ?_⟩
 · intro i
   by_cases hi : i < 64
   · obtain ⟨k, hk, hc, _⟩ := byt i hi
     simp only [hc, hi, if_true, Int.toNat_natCast]
     exact hk
   · have : c[i]? = none := List.getElem?_eq_none (by rw [hlen2, hCe]; omega)
     simp [this]
 · apply List.ext_getElem?
   intro i
   by_cases hi : i < 64
   · obtain ⟨k, hk, hc, _⟩ := byt i hi
     unfold bl
     simp only [List.getElem?_map, List.getElem?_range hi, Option.map_some, hc, hi, if_true, Int.toNat_natCast]
   · rw [List.getElem?_eq_none (by rw [hlen2, hCe]; omega), List.getElem?_eq_none (by rw [zl]; omega)]
 · have hp : x.2 = ys.flatMap (·.2) := by simpa using congrArg Prod.snd hx2
   rw [hp, List.flatMap_eq_nil_iff]
   intro z hzm
   obtain ⟨j, hj⟩ := List.getElem?_of_mem hzm
   have hjn : j < 64 := by rw [← hyl]; exact (List.getElem?_eq_some_iff.1 hj).1
   obtain ⟨k, _, _, h2⟩ := byt j hjn
   rw [hj] at h2
   injection h2 with h2
   rw [h2]
end
end Go.Proofs.Ytoncepgcfifgbaa
end
section
namespace Go.Proofs.Ytoncepgcfifgbaa
open Go.ChangeShapes Go.WideShapes Go.ChangeAt Go.RowKit
set_option linter.unusedVariables false
set_option linter.unusedSimpArgs false
section
variable {H : Type} {enc : TypeId × Value → H} {P : Program}
theorem open_fr {t e u : TypeId} {f0 f1 : Field} {w : World} {r : Reach} {b0 base : Nat} {spare : Nat → Bool} {held : Bool} {v : Value} {d : DataW H} {p : List MemPlace}
 (ht : P.underlying t = some (.struct #[f0, f1])) (k0 : f0.type = e ∧ f0.offset = 0) (k1 : f1.type = e ∧ f1.offset = 64)
 (he : P.underlying e = some (.array 64 u)) (hu : P.underlying u = some (.int .u8)) (hC : P.cellsOf t = 128) (hCe : P.cellsOf e = 64) (hCu : P.cellsOf u = 1)
 (hv : Value.okWide P w r b0 t v) (h : DataW.Trod enc P w base spare held t v d p) :
 ∃ (A B : Nat → Nat), byte A ∧ byte B ∧ v = .agg (frC A B).toArray ∧ p = [] ∧ ∀ (w' : World) (base' : Nat) (spare' : Nat → Bool) (held' : Bool), DataW.Trod enc P w' base' spare' held' t v d [] := by
 unfold Value.okWide at hv
 rw [ht] at hv
 obtain ⟨cs, rfl, hsz, _⟩ := hv
 obtain ⟨fuel, hf⟩ := h
 obtain ⟨xs, n, hn, hx, hlen, hxl, hel⟩ := DataW.trod_struct ht hf
 subst hn
 have hcs : cs.toList.length = 128 := by
  have : cs.size = 128 := by rw [hsz, hC]
  simpa using this
 have hxl2 : xs.length = 2 := by simpa using hxl
 obtain ⟨y0, y1, rfl⟩ : ∃ y0 y1, xs = [y0, y1] := by
  match xs, hxl2 with
  | [a, b], _ => exact ⟨a, b, rfl⟩
 have g0 := hel 0 f0 rfl
 have g1 := hel 1 f1 rfl
 rw [k0.1, k0.2, hCe] at g0
 rw [k1.1, k1.2, hCe] at g1
 obtain ⟨⟨A, bA, eA⟩, n0⟩ := trod_bytes he hu hCe hCu g0
 obtain ⟨⟨B, bB, eB⟩, n1⟩ := trod_bytes he hu hCe hCu g1
 have h5 : (Value.agg cs).cells.toList = cs.toList := rfl
 rw [h5] at eA eB
 have hcs2 : cs.toList = frC A B := by
  have e0 : cs.toList = (cs.toList.drop 0).take 64 ++ (cs.toList.drop 64).take 64 := by
   have a1 : (cs.toList.drop 64).take 64 = cs.toList.drop 64 := List.take_of_length_le (by rw [List.length_drop]; omega)
   rw [a1, List.drop_zero, List.take_append_drop]
  rw [e0, eA, eB]
  rfl
 have hp : p = [] := by
  have hp : p = [y0, y1].flatMap (·.2) := by simpa using congrArg Prod.snd hx
  simpa [n0, n1] using hp
 refine ⟨A, B, bA, bB, ?_, hp, ?_⟩
 · rw [← hcs2]
 · intro w' base' spare' held'
   refine ⟨n + 1, ?_⟩
   have same : ∀ (f : Field) (c : List Value), f = f0 ∨ f = f1 → DataW.trod enc P w' base' spare' held' n f.type c = DataW.trod enc P w base spare held n f.type c := by
    rintro f c (rfl | rfl)
    · rw [k0.1]; exact trod_barr_same he hu _ _ _ _ _ _ _ _ _ _
    · rw [k1.1]; exact trod_barr_same he hu _ _ _ _ _ _ _ _ _ _
   have e1 : DataW.trod enc P w' base' spare' held' (n + 1) t (Value.agg cs).cells.toList = DataW.trod enc P w base spare held (n + 1) t (Value.agg cs).cells.toList := by
    unfold DataW.trod
    rw [ht]
    simp only [List.mapM_cons, List.mapM_nil, same f0 _ (.inl rfl), same f1 _ (.inr rfl)]
   rw [e1, hf, hp]
end
end Go.Proofs.Ytoncepgcfifgbaa
end
