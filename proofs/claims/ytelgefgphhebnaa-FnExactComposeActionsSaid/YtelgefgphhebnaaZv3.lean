/-
  What the rows of this claim rest on: arrays of bytes, walks of the functions, plain mathematics.
-/
import Derived.Test.YtelgefgphhebnaaZv2
import Derived.Test.YtelgefgphhebnaaRows
import Derived.ProofKit
import Derived.JoinedOf
section
namespace Go.Proofs.Ytelgefgphhebnaa
open Go Go.RowKit
set_option linter.unusedVariables false
set_option linter.unusedSimpArgs false
attribute [local irreducible] deg addK okA strP prd cmG
set_option maxRecDepth 100000 in
set_option maxHeartbeats 9000000 in
theorem composeS_ok (n : Nat) (Va Ua : List (Nat → Nat)) (bV bU qV qU : Nat) (w : World) (hpr : n = 2 ∨ n = 3 ∨ n = 5 ∨ n = 7) (gV : ∀ r k, k < 64 → zrow Va r k < n) (gU : ∀ r k, k < 64 → zrow Ua r k < n) (l1 : Va.length ≤ 7) (l2 : Ua.length ≤ 7) (hgd : cmG n Va Ua)
 (hV : SlL w qV 28 64 (.slice (some ⟨bV, 0, none⟩) Va.length Va.length) (plR Va)) (hU : SlL w qU 28 64 (.slice (some ⟨bU, 0, none⟩) Ua.length Ua.length) (plR Ua))
 (hck0 : Calls Try.prog 79 #[.int .i64 (n : Int), .slice (some ⟨bV, 0, none⟩) Va.length Va.length, .slice (some ⟨bU, 0, none⟩) Ua.length Ua.length] w fun e w' => e = .returned (.int .i64 0) ∧ Below w.heap.size w w') (hv0 : cpV (n : Int) Va Ua = (cmL n Va Ua, 0)) :
 Calls Try.prog 45 #[.int .i64 (n : Int), .slice (some ⟨bV, 0, none⟩) Va.length Va.length, .slice (some ⟨bU, 0, none⟩) Ua.length Ua.length] w fun e w' => ∃ v, e = .returned (.tuple #[v, .int .i64 (cpV (n : Int) Va Ua).2]) ∧ SlL w' w.heap.size 28 64 v (plR (cpV (n : Int) Va Ua).1) ∧ Below w.heap.size w w' := by
 have HCK := Lib.hid hck0
 have HV := Lib.hid hv0
 clear hck0 hv0
 unfold cmG at hgd
 have HGD := Lib.hid hgd
 have p0 : 0 < n := by omega
 obtain ⟨M, hM⟩ : ∃ M : Nat, M = Va.length + Ua.length := ⟨_, rfl⟩
 have hMI : (Va.length : Int) + (Ua.length : Int) = (M : Int) := by omega
 have hM9 : M ≤ 100000 := by omega
 have hM14 : M ≤ 14 := by omega
 have HM := Lib.hid hM
 have HL := Lib.hid (fun (W : World) (a : Option Addr) (c : Nat) (h : SlL W w.heap.size 28 64 (.slice a M c) (plR ((List.range M).map (coR n (zrow Va) (zrow Ua) Ua.length Va.length)))) => show SlL W w.heap.size 28 64 (.slice a (skN (coR n (zrow Va) (zrow Ua) Ua.length Va.length) M + 1).toNat c) (plR (cmL n Va Ua)) from by
  have h3 := cmL_trim (w := W) (base := w.heap.size) (n := n) (c := c) (a := a) (Va := Va) (Ua := Ua) (by unfold cmR cmM; rw [← hM]; exact h)
  unfold cmR cmM at h3; rw [← hM] at h3; exact h3)
 clear hM hgd
 have HRA := Lib.hid (fun i (hi : i < Va.length) j (h : deg (zrow Ua j) * ((n ^ i : Nat) : Int) ≤ 63) W => l04Raise_ok n i (zrow Ua j) W (by omega) (by omega) (by omega) (gU j) h)
 have HRL := Lib.hid (fun i j k (hk : k < 64) => strP_lt (p := n) (q := n ^ i) (x := zrow Ua j) p0 (Nat.pow_pos p0) (gU j) k hk)
 have HTM := Lib.hid (fun (i j : Nat) (X : Nat → Nat) (hX : ∀ k, k < 64 → X k < n) W => l01Times_any n (zrow Va i) X W (by omega) (by omega) (gV i) hX)
 have HTG := Lib.hid (fun i j (h : deg (zrow Va i) + deg (strP (n ^ i) (zrow Ua j)) ≤ 63) => show tmV n (zrow Va i) (strP (n ^ i) (zrow Ua j)) = (coX n (zrow Va i) (zrow Ua j) i, true) from by unfold coX; exact if_pos h)
 have HAD := Lib.hid (fun (f g : Nat → Nat) (hf : ∀ k, f k < n) (hg : ∀ k, k < 64 → g k < n) W => l01Add_any n f g 1 W (by omega) (by omega) (by decide) (by decide) (fun k _ => hf k) hg)
 have HJL := Lib.hid (fun i j r k => coJ_lt (p := n) (F := zrow Va) (G := zrow Ua) (i := i) p0 (coR_lt (F := zrow Va) (G := zrow Ua) p0 Ua.length i) j r k)
 have HML := Lib.hid (fun i j k (hk : k < 64) => coX_lt (p := n) (f := zrow Va i) (g := zrow Ua j) (i := i) p0 k)
 have HZ := Lib.hid (coR_z (p := n) (F := zrow Va) (G := zrow Ua) Ua.length)
 have HS := Lib.hid (coR_s (p := n) (F := zrow Va) (G := zrow Ua) Ua.length)
 have HJZ := Lib.hid (coJ_z (p := n) (F := zrow Va) (G := zrow Ua))
 have HJK := Lib.hid (fun i j O h => coJ_skip (p := n) (F := zrow Va) (G := zrow Ua) (i := i) (j := j) (O := O) h)
 have HJS := Lib.hid (fun i j O h h2 => coJ_s (p := n) (F := zrow Va) (G := zrow Ua) (i := i) (j := j) (O := O) h h2)
 clear gV gU
 go_enter Try.func45, Try.ntmps45
 go_upto_region 1 with (fail)
 have hb : Below w.heap.size w w := Below.refl _ _
 go_upto_region 4 with (go_at_call 79; refine HCK.out.mono ?_; rintro e wx ⟨rfl, hx⟩)
 replace hb := hb.trans (hx.mono hb.size)
 clear hx HCK
 go_upto_region 5 with (refine wpList_make_rows _ rfl 30 (.tmp 27) (.tmp 27) rfl 28 Try.underlying30 Try.made28 M hM9 rfl rfl ?_)
 have lhb := hb.size
 obtain ⟨W1, hwo, hzQ⟩ : ∃ v : World, v = (wx.alloc (.cells (zb (M * 64) (fl 64 (fun _ _ => 0))) 28)) ∧ Blk v (wx.heap.size) (M * 64) 28 (fl 64 (fun _ _ => 0)) ∧ Below w.heap.size w v := ⟨_, rfl, (Blk.new wx (M * 64) 28 (fl 64 (fun _ _ => 0))), (hb.alloc (by have := hb.size; simp; omega) (.cells (zb (M * 64) (fl 64 (fun _ _ => 0))) 28))⟩
 rw [← hwo]
 clear hwo hb
 obtain ⟨B0, hb⟩ := hzQ
 obtain ⟨N1, hNN⟩ : ∃ n : Nat, n = wx.heap.size := ⟨_, rfl⟩
 rw [← hNN] at  lhb B0 ⊢
 clear hNN
 have zN1 := lhb
 clear  lhb
 try simp only [Act.put, pA, pB, pC]
 go_wp2_with fail
 go_loopw [10] (fun c wr => ∃ (i : Nat) (O : Nat → Nat → Nat), c = .int .i64 (i : Int) ∧ i ≤ Va.length ∧ Hid (O = coR n (zrow Va) (zrow Ua) Ua.length i) ∧ Below w.heap.size w wr ∧ w.heap.size ≤ N1 ∧ Blk wr (N1) (M * 64) 28 (fl 64 O)) (fun c _ => Va.length - (intOf c).toNat)
 case atStart => exact ⟨0, _, rfl, Nat.zero_le _, Lib.hid HZ.out.symm, hb, by omega, B0⟩
 case round =>
  clear hb B0
  obtain ⟨i, O, rfl, hiA, hO, hb, hlw, B0⟩ := hrel
  by_cases hi : i < Va.length
  · have hiI : (i : Int) < (Va.length : Int) := by omega
    have hrowV := plR_at (zrow_get (L := Va) hi)
    go_wp2_with fail
    go_loopw [11] (fun c wr => ∃ (j : Nat) (O : Nat → Nat → Nat), c = .int .i64 (j : Int) ∧ j ≤ Ua.length ∧ Hid (O = coJ n (zrow Va) (zrow Ua) i (coR n (zrow Va) (zrow Ua) Ua.length i) j) ∧ Below w.heap.size w wr ∧ w.heap.size ≤ N1 ∧ Blk wr (N1) (M * 64) 28 (fl 64 O)) (fun c _ => Ua.length - (intOf c).toNat)
    case atStart => exact ⟨0, O, rfl, Nat.zero_le _, Lib.hid (by rw [HJZ.out, hO.out]), hb, hlw, B0⟩
    case round =>
     clear hb B0 hO
     obtain ⟨j, O, rfl, hjB, hO, hb, hlw, B0⟩ := hrel
     by_cases hj : j < Ua.length
     · have hjI : (j : Int) < (Ua.length : Int) := by omega
       have hrowU := plR_at (zrow_get (L := Ua) hj)
       have hgdz := Try.noGuard28
       have heqF := fun W => zeb (P := Try.prog) W 9998 28 5 64 (zrow Va i) (fun _ => 0) Try.underlying28 Try.underlying5 Try.size5
       have heqG := fun W => zeb (P := Try.prog) W 9998 28 5 64 (zrow Ua j) (fun _ => 0) Try.underlying28 Try.underlying5 Try.size5
       cases hzF : eqN 64 (zrow Va i) (fun _ => 0) with
       | true =>
        rw [hzF] at heqF
        have HK := Lib.hid (HJK.out i j (coR n (zrow Va) (zrow Ua) Ua.length i) (.inl hzF))
        have HQ9 := Lib.hid (show okP2 n (zrow Va) (zrow Ua) i j from fun h => by rw [hzF] at h; cases h)
        clear hzF heqG
        go_wp2_with (first | (refine wpList_load_mid rfl 28 (.tmp 43) rfl _ (i * 64) rfl (bl 64 (zrow Va i)) _ ((hV.zw hb).range hrowV) Try.underlying28 rfl (by rw [zl]; exact Try.size28) ?_) | rw [← z64])
        go_roundw
        case rel => exact ⟨j + 1, O, by go_num, by omega, Lib.hid (by rw [HK.out, hO.out]), hb, hlw, B0⟩
        case measure => simp [intOf] <;> omega
       | false =>
        rw [hzF] at heqF
        cases hzG : eqN 64 (zrow Ua j) (fun _ => 0) with
        | true =>
         rw [hzG] at heqG
         have HK := Lib.hid (HJK.out i j (coR n (zrow Va) (zrow Ua) Ua.length i) (.inr hzG))
         have HQ9 := Lib.hid (show okP2 n (zrow Va) (zrow Ua) i j from fun _ h => by rw [hzG] at h; cases h)
         clear hzF hzG
         go_wp2_with (first | (refine wpList_load_mid rfl 28 (.tmp 43) rfl _ (i * 64) rfl (bl 64 (zrow Va i)) _ ((hV.zw hb).range hrowV) Try.underlying28 rfl (by rw [zl]; exact Try.size28) ?_) | (refine wpList_load_mid_g rfl 28 (.tmp 50) rfl _ (j * 64) rfl (bl 64 (zrow Ua j)) _ ((hU.zw hb).range hrowU) Try.underlying28 rfl (by rw [zl]; exact Try.size28) ?_) | rw [← z64])
         go_roundw
         case rel => exact ⟨j + 1, O, by go_num, by omega, Lib.hid (by rw [HK.out, hO.out]), hb, hlw, B0⟩
         case measure => simp [intOf] <;> omega
        | false =>
         rw [hzG] at heqG
         have HK := Lib.hid (HJS.out i j (coR n (zrow Va) (zrow Ua) Ua.length i) hzF hzG)
         obtain ⟨Q, hQ⟩ : ∃ Q, Q = i + j := ⟨_, rfl⟩
         have hQI : (i : Int) + (j : Int) = (Q : Int) := by omega
         have hQM : Q < M := by have := HM.out; omega
         have hQMI : (Q : Int) < (M : Int) := by omega
         have HQ := Lib.hid hQ
         clear hQ
         have HOL := Lib.hid (show ∀ k, O Q k < n from fun k => by rw [hO.out]; exact HJL.out i j Q k)
         have HQ9 := Lib.hid (show okP2 n (zrow Va) (zrow Ua) i j from fun _ _ => (HGD.out i hi j hj hzF hzG))
         obtain ⟨g1, g2⟩ := (HGD.out i hi j hj hzF hzG)
         have HR1 := Lib.hid (HRA.out i hi j g1)
         have HT1 := Lib.hid (HTM.out i j _ (HRL.out i j))
         rw [HTG.out i j g2] at HT1
         have HA1 := Lib.hid (HAD.out (O Q) (coX n (zrow Va i) (zrow Ua j) i) HOL.out (HML.out i j))
         clear hzF hzG g1 g2
         go_upto_region 12 with (first | (refine wpList_load_mid rfl 28 (.tmp 43) rfl _ (i * 64) rfl (bl 64 (zrow Va i)) _ ((hV.zw hb).range hrowV) Try.underlying28 rfl (by rw [zl]; exact Try.size28) ?_) | (refine wpList_load_mid_g rfl 28 (.tmp 50) rfl _ (j * 64) rfl (bl 64 (zrow Ua j)) _ ((hU.zw hb).range hrowU) Try.underlying28 rfl (by rw [zl]; exact Try.size28) ?_) | rw [← z64])
         clear heqF heqG hgdz
         have lt_B0 := B0.lt
         go_upto_region 13 with (first | rw [← z64] | (refine wpList_load_mid rfl 28 (.tmp 59) rfl _ (j * 64) rfl (bl 64 (zrow Ua j)) _ ((hU.zw hb).range hrowU) Try.underlying28 rfl (by rw [zl]; exact Try.size28) ?_) | (go_at_call 84; refine (HR1.out _).mono ?_; rintro e W2 ⟨rfl, hW2⟩; replace B0 := B0.zw hW2; replace hb := (hb).trans (hW2.mono (hb).size)) | (refine wpList_store_blk rfl 28 (.tmp 12) (.tmp 63) rfl _ 64 (strP (n ^ i) (zrow Ua j)) rfl rfl 28 _ ((Blk.new W2 64 28 (fun _ => 0))) Try.size28 ?_; try simp only [Act.put]; go_upto_region 13 with (fail)))
         have lt_B0 := B0.lt
         have lhb := hb.size
         obtain ⟨W3, hwo, hzQ⟩ : ∃ v : World, v = ((W2.alloc (.cells (zb 64 (fun _ => 0)) 28)).setRow (W2.heap.size) (zb 64 (strP (n ^ i) (zrow Ua j)))) ∧ Blk v (N1) (M * 64) 28 (fl 64 O) ∧ Blk v (W2.heap.size) 64 28 (strP (n ^ i) (zrow Ua j)) ∧ Below w.heap.size w v := ⟨_, rfl, ((B0.alloc (.cells (zb 64 (fun _ => 0)) 28)).rowOther (by omega)), ((Blk.new W2 64 28 (fun _ => 0)).row (strP (n ^ i) (zrow Ua j))), (zr (hb.alloc (by have := hb.size; simp; omega) (.cells (zb 64 (fun _ => 0)) 28)) (by omega) _)⟩
         rw [← hwo]
         clear hwo B0 hb
         obtain ⟨B0, B1, hb⟩ := hzQ
         obtain ⟨N2, hNN⟩ : ∃ n : Nat, n = W2.heap.size := ⟨_, rfl⟩
         rw [← hNN] at lt_B0 lhb B1 ⊢
         clear hNN
         have zN2_0 := lt_B0
         have zN2 := lhb
         clear lt_B0 lhb
         try simp only [Act.put, pA, pB, pC]
         have lt_B0 : (N1) < W3.heap.size := B0.lt
         have lt_B1 : (N2) < W3.heap.size := B1.lt
         refine zq Try.mixed (by kernel_rfl) (by kernel_rfl) (fun v => by (simp only [frL, Act.put, pA, pB, pC, Nat.reduceAdd, Nat.zero_add]; exact rfl))
          (fun L v W4 => Below W3.heap.size W3 W4 ∧ (L 10 = true → AF (v 10) W4 W3.heap.size 64 28) ∧ (L 11 = true → PF (v 10) W4 W3.heap.size 64 28 (coX n (zrow Va i) (zrow Ua j) i)) ∧ VF L v [some (.int .i64 (n : Int)), some (.slice (some ⟨bV, 0, none⟩) Va.length Va.length), some (.int .i64 (i : Int)), some (.pointer (some ⟨bV, i * 64, none⟩)), some (.agg (zb 64 (zrow Va i))), some (.agg (zb 64 (strP (n ^ i) (zrow Ua j)))), some (.tuple #[(.agg (zb 64 (coX n (zrow Va i) (zrow Ua j) i))), (.bool true)]), some (.tuple #[(.agg (zb 64 (coX n (zrow Va i) (zrow Ua j) i))), (.bool true)]), some (.agg (zb 64 (coX n (zrow Va i) (zrow Ua j) i))), some (.bool true), none, none, some (.bool true)]) ?_ ?_ ?_
         · intro v hv0
           exact ⟨(Below.refl _ W3).drew, (fun h => by cases h), (fun h => by cases h), VF.start⟩
         · refine (.cons rfl ?_ (.cons rfl ?_ (.cons rfl ?_ (.cons rfl ?_ (.cons rfl ?_ (.cons rfl ?_ (.cons rfl ?_ (.cons rfl ?_ (.cons rfl ?_ (.cons rfl ?_ (.cons rfl ?_ (.cons rfl ?_ (.cons rfl ?_ (.nil _))))))))))))))
           all_goals intro L v W4 hd hn ⟨hY, h10, h11, V⟩ K hK
           · go_wp2_with fail
             exact hK _ (.int .i64 (n : Int)) _ (by simp only [Act.put, pA, pB, pC ]) ⟨hY, h10, h11, V.step 0 rfl⟩
           · go_wp2_with fail
             exact hK _ (.slice (some ⟨bV, 0, none⟩) Va.length Va.length) _ (by simp only [Act.put, pA, pB, pC ]) ⟨hY, h10, h11, V.step 1 rfl⟩
           · go_wp2_with fail
             exact hK _ (.int .i64 (i : Int)) _ (by simp only [Act.put, pA, pB, pC ]) ⟨hY, h10, h11, V.step 2 rfl⟩
           · have e1 := V.at (zdq hd 1 rfl) rfl
             have e2 := V.at (zdq hd 2 rfl) rfl
             go_wp2_with fail
             exact hK _ (.pointer (some ⟨bV, i * 64, none⟩)) _ (by simp only [Act.put, pA, pB, pC, e1, e2]) ⟨hY, h10, h11, V.step 3 rfl⟩
           · have e3 := V.at (zdq hd 3 rfl) rfl
             refine wp_load_mid 28 _ rfl _ (i * 64) e3 _ _ ((hV.below (by first | exact hB | exact hb.trans (hY.mono hb.size)) hV.lt).range hrowV) Try.underlying28 rfl (by rw [zl]; exact Try.size28) ?_
             exact hK _ _ _ rfl ⟨hY, h10, h11, V.step 4 rfl⟩
           · refine zlc (B1.zw hY) Try.underlying28 Try.size28 ?_
             exact hK _ _ _ rfl ⟨hY, h10, h11, V.step 5 rfl⟩
           · have e0 := V.at (zdq hd 0 rfl) rfl
             have e4 := V.at (zdq hd 4 rfl) rfl
             have e5 := V.at (zdq hd 5 rfl) rfl
             go_wp2_with (go_at_call 85; refine (HT1.out _).mono ?_; rintro e wy ⟨rfl, hy⟩)
             exact hK _ (.tuple #[(.agg (zb 64 (coX n (zrow Va i) (zrow Ua j) i))), (.bool true)]) _ (by simp only [Act.put, pA, pB, pC, e0, e4, e5]) ⟨hY.trans (hy.mono hY.size), (fun h => (h10 h).below hy), (fun h => (h11 h).below hy), V.step 6 rfl⟩
           · have e6 := V.at (zdq hd 6 rfl) rfl
             go_wp2_with fail
             exact hK _ (.tuple #[(.agg (zb 64 (coX n (zrow Va i) (zrow Ua j) i))), (.bool true)]) _ (by simp only [Act.put, pA, pB, pC, e6]) ⟨hY, h10, h11, V.step 7 rfl⟩
           · have e7 := V.at (zdq hd 7 rfl) rfl
             go_wp2_with fail
             exact hK _ (.agg (zb 64 (coX n (zrow Va i) (zrow Ua j) i))) _ (by simp only [Act.put, pA, pB, pC, e7]) ⟨hY, h10, h11, V.step 8 rfl⟩
           · have e7 := V.at (zdq hd 7 rfl) rfl
             go_wp2_with fail
             exact hK _ (.bool true) _ (by simp only [Act.put, pA, pB, pC, e7]) ⟨hY, h10, h11, V.step 9 rfl⟩
           · go_wp2_with fail
             rw [← z64]
             exact hK _ (.pointer (some ⟨W4.heap.size, 0, none⟩)) _ (by simp only [Act.put, pA, pB, pC ]) ⟨hY.alloc hY.size _, (fun _ => (PF.new W4 64 28 _ hY.size).af), (fun h => absurd rfl (hn 11 _ rfl h ⟨10, .data⟩ (by simp) rfl)), V.skip 10 rfl⟩
           · have e8 := V.at (zdq hd 8 rfl) rfl
             obtain ⟨gz, b, ea, hN, hk⟩ := (h10 (zdq hd 10 rfl)).out
             refine zsb 28 _ _ rfl b 64 (coX n (zrow Va i) (zrow Ua j) i) ea e8 28 gz hk Try.size28 ?_
             exact hK _ undef _ rfl ⟨zr hY hN _, (fun h => (h10 h).row hk), (fun _ => by rw [show updV v 11 undef 10 = v 10 from rfl, ea]; exact PF.row hk hN _), V.skip 11 rfl⟩
           · have e9 := V.at (zdq hd 9 rfl) rfl
             go_wp2_with fail
             exact hK _ (.bool true) _ (by simp only [Act.put, pA, pB, pC, e9]) ⟨hY, h10, h11, V.step 12 rfl⟩
         · intro L v W4 hL ⟨hY, h10, h11, V⟩
           obtain ⟨k13_10, e10, hNk13_10, hk13_10⟩ := (h11 (hL 11 (by decide))).out
           have e0 := V.at (hL 0 (by decide)) rfl
           have e1 := V.at (hL 1 (by decide)) rfl
           have e2 := V.at (hL 2 (by decide)) rfl
           have e3 := V.at (hL 3 (by decide)) rfl
           have e4 := V.at (hL 4 (by decide)) rfl
           have e5 := V.at (hL 5 (by decide)) rfl
           have e6 := V.at (hL 6 (by decide)) rfl
           have e7 := V.at (hL 7 (by decide)) rfl
           have e8 := V.at (hL 8 (by decide)) rfl
           have e9 := V.at (hL 9 (by decide)) rfl
           have e12 := V.at (hL 12 (by decide)) rfl
           clear hL h10 h11 V
           replace B0 := B0.zw hY
           replace B1 := B1.zw hY
           replace hb := hb.trans (hY.mono hb.size)
           clear hY
           simp only [Exit.then, e10, e0, e1, e2, e3, e4, e5, e6, e7, e8, e9, e12]
           clear e10 e0 e1 e2 e3 e4 e5 e6 e7 e8 e9 e12
           have B2 := hk13_10
           clear hk13_10
           have zk13_10_0 : N1 < k13_10 := by omega
           have zk13_10_1 : N2 < k13_10 := by omega
           clear lt_B0 lt_B1
           go_upto_region 16 with (fail)
           have lt_B0 : (N1) < W4.heap.size := B0.lt
           have lt_B1 : (N2) < W4.heap.size := B1.lt
           have lt_B2 : (k13_10) < W4.heap.size := B2.lt
           have hbase : w.heap.size ≤ W4.heap.size := hb.size
           refine zq Try.mixed (by kernel_rfl) (by kernel_rfl) (fun v => by (simp only [frL, Act.put, pA, pB, pC, Nat.reduceAdd, Nat.zero_add]; exact rfl))
            (fun L v W5 => Below w.heap.size w W5 ∧ Kx [N1] W4 W5 ∧ (∃ g, Blk W5 (N1) (M * 64) 28 (g)) ∧ (L 14 = false → Blk W5 (N1) (M * 64) 28 (fl 64 O)) ∧ (L 14 = true → Blk W5 (N1) (M * 64) 28 (fl 64 (updR O Q (addK n (O Q) (coX n (zrow Va i) (zrow Ua j) i) 1)))) ∧ VF L v [some (.slice (some ⟨N1, 0, none⟩) M M), some (.int .i64 (i : Int)), some (.int .i64 (j : Int)), some (.int .i64 (Q : Int)), some (.int .i64 (n : Int)), some (.slice (some ⟨N1, 0, none⟩) M M), some (.int .i64 (i : Int)), some (.int .i64 (j : Int)), some (.int .i64 (Q : Int)), some (.pointer (some ⟨N1, Q * 64, none⟩)), some (.agg (zb 64 (O Q))), some (.agg (zb 64 (coX n (zrow Va i) (zrow Ua j) i))), some (.agg (zb 64 (addK n (O Q) (coX n (zrow Va i) (zrow Ua j) i) 1))), some (.pointer (some ⟨N1, Q * 64, none⟩)), none]) ?_ ?_ ?_
           · intro v hv0
             exact ⟨hb.drew, Kx.start _ _, ⟨_, B0.drew⟩, (fun _ => B0.drew), (fun h => by cases h), VF.start⟩
           · refine (.cons rfl ?_ (.cons rfl ?_ (.cons rfl ?_ (.cons rfl ?_ (.cons rfl ?_ (.cons rfl ?_ (.cons rfl ?_ (.cons rfl ?_ (.cons rfl ?_ (.cons rfl ?_ (.cons rfl ?_ (.cons rfl ?_ (.cons rfl ?_ (.cons rfl ?_ (.cons rfl ?_ (.nil _))))))))))))))))
             all_goals intro L v W5 hd hn ⟨hB, hX, x0, q0, n0, V⟩ K hK
             · go_wp2_with fail
               exact hK _ (.slice (some ⟨N1, 0, none⟩) M M) _ (by simp only [Act.put, pA, pB, pC ]) ⟨hB, hX, x0, q0, n0, V.step 0 rfl⟩
             · go_wp2_with fail
               exact hK _ (.int .i64 (i : Int)) _ (by simp only [Act.put, pA, pB, pC ]) ⟨hB, hX, x0, q0, n0, V.step 1 rfl⟩
             · go_wp2_with fail
               exact hK _ (.int .i64 (j : Int)) _ (by simp only [Act.put, pA, pB, pC ]) ⟨hB, hX, x0, q0, n0, V.step 2 rfl⟩
             · have e1 := V.at (zdq hd 1 rfl) rfl
               have e2 := V.at (zdq hd 2 rfl) rfl
               go_wp2_with fail
               exact hK _ (.int .i64 (Q : Int)) _ (by simp only [Act.put, pA, pB, pC, e1, e2]) ⟨hB, hX, x0, q0, n0, V.step 3 rfl⟩
             · go_wp2_with fail
               exact hK _ (.int .i64 (n : Int)) _ (by simp only [Act.put, pA, pB, pC ]) ⟨hB, hX, x0, q0, n0, V.step 4 rfl⟩
             · go_wp2_with fail
               exact hK _ (.slice (some ⟨N1, 0, none⟩) M M) _ (by simp only [Act.put, pA, pB, pC ]) ⟨hB, hX, x0, q0, n0, V.step 5 rfl⟩
             · go_wp2_with fail
               exact hK _ (.int .i64 (i : Int)) _ (by simp only [Act.put, pA, pB, pC ]) ⟨hB, hX, x0, q0, n0, V.step 6 rfl⟩
             · go_wp2_with fail
               exact hK _ (.int .i64 (j : Int)) _ (by simp only [Act.put, pA, pB, pC ]) ⟨hB, hX, x0, q0, n0, V.step 7 rfl⟩
             · have e6 := V.at (zdq hd 6 rfl) rfl
               have e7 := V.at (zdq hd 7 rfl) rfl
               go_wp2_with fail
               exact hK _ (.int .i64 (Q : Int)) _ (by simp only [Act.put, pA, pB, pC, e6, e7]) ⟨hB, hX, x0, q0, n0, V.step 8 rfl⟩
             · have e5 := V.at (zdq hd 5 rfl) rfl
               have e8 := V.at (zdq hd 8 rfl) rfl
               go_wp2_with fail
               exact hK _ (.pointer (some ⟨N1, Q * 64, none⟩)) _ (by simp only [Act.put, pA, pB, pC, e5, e8]) ⟨hB, hX, x0, q0, n0, V.step 9 rfl⟩
             · have e9 := V.at (zdq hd 9 rfl) rfl
               have s0 := q0 (by
                cases hL : L 14 with
                | false => rfl
                | true => exact absurd rfl (hn 14 _ rfl hL ⟨10, .phase⟩ (by simp) rfl))
               refine wp_load_mid 28 _ rfl _ (Q * 64) e9 _ _ ((s0).rowF (r := M) (c := 64) (by omega)) Try.underlying28 rfl (by rw [zl]; exact Try.size28) ?_
               exact hK _ _ _ rfl ⟨hB, hX, x0, q0, n0, V.step 10 rfl⟩
             · refine wp_load_any 28 _ rfl _ rfl 64 28 _ (B2.kx hX (by simp <;> omega)) _ Try.underlying28 rfl Try.size28 ?_
               exact hK _ _ _ rfl ⟨hB, hX, x0, q0, n0, V.step 11 rfl⟩
             · have e4 := V.at (zdq hd 4 rfl) rfl
               have e10 := V.at (zdq hd 10 rfl) rfl
               have e11 := V.at (zdq hd 11 rfl) rfl
               go_wp2_with (go_at_call 80; refine (HA1.out _).mono ?_; rintro e wy ⟨rfl, hy⟩)
               exact hK _ (.agg (zb 64 (addK n (O Q) (coX n (zrow Va i) (zrow Ua j) i) 1))) _ (by simp only [Act.put, pA, pB, pC, e4, e10, e11]) ⟨hB.trans (hy.mono hB.size), hX.below hy, (let ⟨g, h⟩ := x0; ⟨g, h.zw hy⟩), (fun h => (q0 h).below hy (q0 h).lt), (fun h => (n0 h).below hy (n0 h).lt), V.step 12 rfl⟩
             · have e0 := V.at (zdq hd 0 rfl) rfl
               have e3 := V.at (zdq hd 3 rfl) rfl
               go_wp2_with fail
               exact hK _ (.pointer (some ⟨N1, Q * 64, none⟩)) _ (by simp only [Act.put, pA, pB, pC, e0, e3]) ⟨hB, hX, x0, q0, n0, V.step 13 rfl⟩
             · have e13 := V.at (zdq hd 13 rfl) rfl
               have e12 := V.at (zdq hd 12 rfl) rfl
               obtain ⟨gz, hk, hg⟩ : ∃ gz, Blk W5 (N1) (M * 64) 28 (fl 64 gz) ∧ updR gz (Q) (addK n (O Q) (coX n (zrow Va i) (zrow Ua j) i) 1) = updR O (Q) (addK n (O Q) (coX n (zrow Va i) (zrow Ua j) i) 1) := by
                cases hL : L 14 with
                | false => exact ⟨_, q0 hL, rfl⟩
                | true => exact ⟨_, n0 hL, updR_twice _ _ _⟩
               refine wp_store_rowF 28 _ _ rfl _ (Q) 64 M (addK n (O Q) (coX n (zrow Va i) (zrow Ua j) i) 1) e13 e12 28 gz hk (by omega) (by decide) Try.size28 ?_
               rw [hg]
               exact hK _ undef _ rfl ⟨zr hB (by omega) _, hX.row (by simp) _, ⟨_, hk.row _⟩, (fun h => absurd h (by simp [setL])), (fun _ => hk.row _), V.skip 14 rfl⟩
           · intro L v W5 hL ⟨hB, hX, x0, q0, n0, V⟩
             have r0 := n0 (hL 14 (by decide))
             have e0 := V.at (hL 0 (by decide)) rfl
             have e1 := V.at (hL 1 (by decide)) rfl
             have e2 := V.at (hL 2 (by decide)) rfl
             have e3 := V.at (hL 3 (by decide)) rfl
             have e4 := V.at (hL 4 (by decide)) rfl
             have e5 := V.at (hL 5 (by decide)) rfl
             have e6 := V.at (hL 6 (by decide)) rfl
             have e7 := V.at (hL 7 (by decide)) rfl
             have e8 := V.at (hL 8 (by decide)) rfl
             have e9 := V.at (hL 9 (by decide)) rfl
             have e10 := V.at (hL 10 (by decide)) rfl
             have e11 := V.at (hL 11 (by decide)) rfl
             have e12 := V.at (hL 12 (by decide)) rfl
             have e13 := V.at (hL 13 (by decide)) rfl
             clear hL x0 q0 n0 V
             replace B1 := B1.kx hX (by simp <;> omega)
             replace B2 := B2.kx hX (by simp <;> omega)
             clear hX
             simp only [Exit.then, e0, e1, e2, e3, e4, e5, e6, e7, e8, e9, e10, e11, e12, e13]
             clear e0 e1 e2 e3 e4 e5 e6 e7 e8 e9 e10 e11 e12 e13
             replace B0 := r0
             clear r0
             replace hb := hB
             clear hB
             clear hbase lt_B0 lt_B1 lt_B2
             go_wp2_with fail
             go_roundw
             case rel => exact ⟨j + 1, _, by go_num, by omega, Lib.hid (by rw [HK.out, ← hO.out, ← HQ.out]), hb, hlw, B0⟩
             case measure => simp [intOf] <;> omega
     · have hjI : ¬ (j : Int) < (Ua.length : Int) := by omega
       have hjE : j = Ua.length := by omega
       have HE := Lib.hid hjE
       clear hjE
       go_wp2_with fail
       go_roundw
       case rel => exact ⟨i + 1, O, by go_num, by omega, Lib.hid (by rw [HS.out, hO.out, HE.out]), hb, hlw, B0⟩
       case measure => simp [intOf] <;> omega
  · have hiI : ¬ (i : Int) < (Va.length : Int) := by omega
    have hiE : i = Va.length := by omega
    have HO2 := hO.out
    rw [hiE] at HO2
    have hSm := slL_ofBlk B0 hlw (by unfold maxLen; omega)
    rw [HO2] at hSm
    clear HO2 hiE
    have HTR := Lib.hid (l04Trim_any _ M M w.heap.size (coR n (zrow Va) (zrow Ua) Ua.length Va.length) wr hSm hM9)
    go_wp2_with (first | (go_at_call 81; refine HTR.out.mono ?_; rintro e W7 ⟨rfl, h7⟩))
    go_ret2
    exact ⟨_, by rw [HV.out]; rfl, by rw [HV.out]; exact HL.out _ _ _ (hSm.zw h7), hb.trans (h7.mono hb.size)⟩
set_option maxRecDepth 100000 in
set_option maxHeartbeats 9000000 in
theorem composeS_no (n : Nat) (Va Ua : List (Nat → Nat)) (bV bU qV qU : Nat) (w : World) (hpr : n = 2 ∨ n = 3 ∨ n = 5 ∨ n = 7) (gV : ∀ r k, k < 64 → zrow Va r k < n) (gU : ∀ r k, k < 64 → zrow Ua r k < n) (l1 : Va.length ≤ 7) (l2 : Ua.length ≤ 7) (hgd : ¬ cmG n Va Ua)
 (hV : SlL w qV 28 64 (.slice (some ⟨bV, 0, none⟩) Va.length Va.length) (plR Va)) (hU : SlL w qU 28 64 (.slice (some ⟨bU, 0, none⟩) Ua.length Ua.length) (plR Ua))
 (hck0 : Calls Try.prog 79 #[.int .i64 (n : Int), .slice (some ⟨bV, 0, none⟩) Va.length Va.length, .slice (some ⟨bU, 0, none⟩) Ua.length Ua.length] w fun e w' => e = .returned (.int .i64 0) ∧ Below w.heap.size w w') (hv0 : cpV (n : Int) Va Ua = ([], 3)) :
 Calls Try.prog 45 #[.int .i64 (n : Int), .slice (some ⟨bV, 0, none⟩) Va.length Va.length, .slice (some ⟨bU, 0, none⟩) Ua.length Ua.length] w fun e w' => ∃ v, e = .returned (.tuple #[v, .int .i64 (cpV (n : Int) Va Ua).2]) ∧ SlL w' w.heap.size 28 64 v (plR (cpV (n : Int) Va Ua).1) ∧ Below w.heap.size w w' := by
 have HCK := Lib.hid hck0
 have HV := Lib.hid hv0
 clear hck0 hv0
 unfold cmG at hgd
 have HGD := Lib.hid hgd
 have p0 : 0 < n := by omega
 obtain ⟨M, hM⟩ : ∃ M : Nat, M = Va.length + Ua.length := ⟨_, rfl⟩
 have hMI : (Va.length : Int) + (Ua.length : Int) = (M : Int) := by omega
 have hM9 : M ≤ 100000 := by omega
 have hM14 : M ≤ 14 := by omega
 have HM := Lib.hid hM
 clear hM hgd
 have HRA := Lib.hid (fun i (hi : i < Va.length) j (h : deg (zrow Ua j) * ((n ^ i : Nat) : Int) ≤ 63) W => l04Raise_ok n i (zrow Ua j) W (by omega) (by omega) (by omega) (gU j) h)
 have HRL := Lib.hid (fun i j k (hk : k < 64) => strP_lt (p := n) (q := n ^ i) (x := zrow Ua j) p0 (Nat.pow_pos p0) (gU j) k hk)
 have HTM := Lib.hid (fun (i j : Nat) (X : Nat → Nat) (hX : ∀ k, k < 64 → X k < n) W => l01Times_any n (zrow Va i) X W (by omega) (by omega) (gV i) hX)
 have HTG := Lib.hid (fun i j (h : deg (zrow Va i) + deg (strP (n ^ i) (zrow Ua j)) ≤ 63) => show tmV n (zrow Va i) (strP (n ^ i) (zrow Ua j)) = (coX n (zrow Va i) (zrow Ua j) i, true) from by unfold coX; exact if_pos h)
 have HRN := Lib.hid (fun i (hi : i < Va.length) j (h : 63 < deg (zrow Ua j) * ((n ^ i : Nat) : Int)) W => l04Raise_no n i (zrow Ua j) W (by omega) (by omega) (by omega) (gU j) h)
 have HTB := Lib.hid (fun i j (h : ¬ deg (zrow Va i) + deg (strP (n ^ i) (zrow Ua j)) ≤ 63) => show tmV n (zrow Va i) (strP (n ^ i) (zrow Ua j)) = (fun _ => 0, false) from if_neg h)
 have HAD := Lib.hid (fun (f g : Nat → Nat) (hf : ∀ k, f k < n) (hg : ∀ k, k < 64 → g k < n) W => l01Add_any n f g 1 W (by omega) (by omega) (by decide) (by decide) (fun k _ => hf k) hg)
 have HJL := Lib.hid (fun i j r k => coJ_lt (p := n) (F := zrow Va) (G := zrow Ua) (i := i) p0 (coR_lt (F := zrow Va) (G := zrow Ua) p0 Ua.length i) j r k)
 have HML := Lib.hid (fun i j k (hk : k < 64) => coX_lt (p := n) (f := zrow Va i) (g := zrow Ua j) (i := i) p0 k)
 have HZ := Lib.hid (coR_z (p := n) (F := zrow Va) (G := zrow Ua) Ua.length)
 have HS := Lib.hid (coR_s (p := n) (F := zrow Va) (G := zrow Ua) Ua.length)
 have HJZ := Lib.hid (coJ_z (p := n) (F := zrow Va) (G := zrow Ua))
 have HJK := Lib.hid (fun i j O h => coJ_skip (p := n) (F := zrow Va) (G := zrow Ua) (i := i) (j := j) (O := O) h)
 have HJS := Lib.hid (fun i j O h h2 => coJ_s (p := n) (F := zrow Va) (G := zrow Ua) (i := i) (j := j) (O := O) h h2)
 clear gV gU
 go_enter Try.func45, Try.ntmps45
 go_upto_region 1 with (fail)
 have hb : Below w.heap.size w w := Below.refl _ _
 go_upto_region 4 with (go_at_call 79; refine HCK.out.mono ?_; rintro e wx ⟨rfl, hx⟩)
 replace hb := hb.trans (hx.mono hb.size)
 clear hx HCK
 go_upto_region 5 with (refine wpList_make_rows _ rfl 30 (.tmp 27) (.tmp 27) rfl 28 Try.underlying30 Try.made28 M hM9 rfl rfl ?_)
 have lhb := hb.size
 obtain ⟨W1, hwo, hzQ⟩ : ∃ v : World, v = (wx.alloc (.cells (zb (M * 64) (fl 64 (fun _ _ => 0))) 28)) ∧ Blk v (wx.heap.size) (M * 64) 28 (fl 64 (fun _ _ => 0)) ∧ Below w.heap.size w v := ⟨_, rfl, (Blk.new wx (M * 64) 28 (fl 64 (fun _ _ => 0))), (hb.alloc (by have := hb.size; simp; omega) (.cells (zb (M * 64) (fl 64 (fun _ _ => 0))) 28))⟩
 rw [← hwo]
 clear hwo hb
 obtain ⟨B0, hb⟩ := hzQ
 obtain ⟨N1, hNN⟩ : ∃ n : Nat, n = wx.heap.size := ⟨_, rfl⟩
 rw [← hNN] at  lhb B0 ⊢
 clear hNN
 have zN1 := lhb
 clear  lhb
 try simp only [Act.put, pA, pB, pC]
 go_wp2_with fail
 go_loopw [10] (fun c wr => ∃ (i : Nat) (O : Nat → Nat → Nat), c = .int .i64 (i : Int) ∧ i ≤ Va.length ∧ Hid (O = coR n (zrow Va) (zrow Ua) Ua.length i) ∧ Hid (∀ a, a < i → ∀ b, b < Ua.length → okP2 n (zrow Va) (zrow Ua) a b) ∧ Below w.heap.size w wr ∧ w.heap.size ≤ N1 ∧ Blk wr (N1) (M * 64) 28 (fl 64 O)) (fun c _ => Va.length - (intOf c).toNat)
 case atStart => exact ⟨0, _, rfl, Nat.zero_le _, Lib.hid HZ.out.symm, Lib.hid (fun a h => absurd h (Nat.not_lt_zero a)), hb, by omega, B0⟩
 case round =>
  clear hb B0
  obtain ⟨i, O, rfl, hiA, hO, hqO, hb, hlw, B0⟩ := hrel
  by_cases hi : i < Va.length
  · have hiI : (i : Int) < (Va.length : Int) := by omega
    have hrowV := plR_at (zrow_get (L := Va) hi)
    go_wp2_with fail
    go_loopw [11] (fun c wr => ∃ (j : Nat) (O : Nat → Nat → Nat), c = .int .i64 (j : Int) ∧ j ≤ Ua.length ∧ Hid (O = coJ n (zrow Va) (zrow Ua) i (coR n (zrow Va) (zrow Ua) Ua.length i) j) ∧ Hid (∀ b, b < j → okP2 n (zrow Va) (zrow Ua) i b) ∧ Below w.heap.size w wr ∧ w.heap.size ≤ N1 ∧ Blk wr (N1) (M * 64) 28 (fl 64 O)) (fun c _ => Ua.length - (intOf c).toNat)
    case atStart => exact ⟨0, O, rfl, Nat.zero_le _, Lib.hid (by rw [HJZ.out, hO.out]), Lib.hid (fun a h => absurd h (Nat.not_lt_zero a)), hb, hlw, B0⟩
    case round =>
     clear hb B0 hO
     obtain ⟨j, O, rfl, hjB, hO, hqI, hb, hlw, B0⟩ := hrel
     by_cases hj : j < Ua.length
     · have hjI : (j : Int) < (Ua.length : Int) := by omega
       have hrowU := plR_at (zrow_get (L := Ua) hj)
       have hgdz := Try.noGuard28
       have heqF := fun W => zeb (P := Try.prog) W 9998 28 5 64 (zrow Va i) (fun _ => 0) Try.underlying28 Try.underlying5 Try.size5
       have heqG := fun W => zeb (P := Try.prog) W 9998 28 5 64 (zrow Ua j) (fun _ => 0) Try.underlying28 Try.underlying5 Try.size5
       cases hzF : eqN 64 (zrow Va i) (fun _ => 0) with
       | true =>
        rw [hzF] at heqF
        have HK := Lib.hid (HJK.out i j (coR n (zrow Va) (zrow Ua) Ua.length i) (.inl hzF))
        have HQ9 := Lib.hid (show okP2 n (zrow Va) (zrow Ua) i j from fun h => by rw [hzF] at h; cases h)
        clear hzF heqG
        go_wp2_with (first | (refine wpList_load_mid rfl 28 (.tmp 43) rfl _ (i * 64) rfl (bl 64 (zrow Va i)) _ ((hV.zw hb).range hrowV) Try.underlying28 rfl (by rw [zl]; exact Try.size28) ?_) | rw [← z64])
        go_roundw
        case rel => exact ⟨j + 1, O, by go_num, by omega, Lib.hid (by rw [HK.out, hO.out]), Lib.hid (fun b hb2 => by
         by_cases e : b = j
         · subst e; exact HQ9.out
         · exact hqI.out b (by omega)), hb, hlw, B0⟩
        case measure => simp [intOf] <;> omega
       | false =>
        rw [hzF] at heqF
        cases hzG : eqN 64 (zrow Ua j) (fun _ => 0) with
        | true =>
         rw [hzG] at heqG
         have HK := Lib.hid (HJK.out i j (coR n (zrow Va) (zrow Ua) Ua.length i) (.inr hzG))
         have HQ9 := Lib.hid (show okP2 n (zrow Va) (zrow Ua) i j from fun _ h => by rw [hzG] at h; cases h)
         clear hzF hzG
         go_wp2_with (first | (refine wpList_load_mid rfl 28 (.tmp 43) rfl _ (i * 64) rfl (bl 64 (zrow Va i)) _ ((hV.zw hb).range hrowV) Try.underlying28 rfl (by rw [zl]; exact Try.size28) ?_) | (refine wpList_load_mid_g rfl 28 (.tmp 50) rfl _ (j * 64) rfl (bl 64 (zrow Ua j)) _ ((hU.zw hb).range hrowU) Try.underlying28 rfl (by rw [zl]; exact Try.size28) ?_) | rw [← z64])
         go_roundw
         case rel => exact ⟨j + 1, O, by go_num, by omega, Lib.hid (by rw [HK.out, hO.out]), Lib.hid (fun b hb2 => by
          by_cases e : b = j
          · subst e; exact HQ9.out
          · exact hqI.out b (by omega)), hb, hlw, B0⟩
         case measure => simp [intOf] <;> omega
        | false =>
         rw [hzG] at heqG
         have HK := Lib.hid (HJS.out i j (coR n (zrow Va) (zrow Ua) Ua.length i) hzF hzG)
         obtain ⟨Q, hQ⟩ : ∃ Q, Q = i + j := ⟨_, rfl⟩
         have hQI : (i : Int) + (j : Int) = (Q : Int) := by omega
         have hQM : Q < M := by have := HM.out; omega
         have hQMI : (Q : Int) < (M : Int) := by omega
         have HQ := Lib.hid hQ
         clear hQ
         have HOL := Lib.hid (show ∀ k, O Q k < n from fun k => by rw [hO.out]; exact HJL.out i j Q k)
         by_cases hgp : gdP n (zrow Va i) (zrow Ua j) i
         · have hgp2 := hgp
           have HQ9 := Lib.hid (show okP2 n (zrow Va) (zrow Ua) i j from fun _ _ => hgp2)
           obtain ⟨g1, g2⟩ := hgp2
           have HR1 := Lib.hid (HRA.out i hi j g1)
           have HT1 := Lib.hid (HTM.out i j _ (HRL.out i j))
           rw [HTG.out i j g2] at HT1
           have HA1 := Lib.hid (HAD.out (O Q) (coX n (zrow Va i) (zrow Ua j) i) HOL.out (HML.out i j))
           clear hzF hzG g1 g2 hgp
           go_upto_region 12 with (first | (refine wpList_load_mid rfl 28 (.tmp 43) rfl _ (i * 64) rfl (bl 64 (zrow Va i)) _ ((hV.zw hb).range hrowV) Try.underlying28 rfl (by rw [zl]; exact Try.size28) ?_) | (refine wpList_load_mid_g rfl 28 (.tmp 50) rfl _ (j * 64) rfl (bl 64 (zrow Ua j)) _ ((hU.zw hb).range hrowU) Try.underlying28 rfl (by rw [zl]; exact Try.size28) ?_) | rw [← z64])
           clear heqF heqG hgdz
           have lt_B0 := B0.lt
           go_upto_region 13 with (first | rw [← z64] | (refine wpList_load_mid rfl 28 (.tmp 59) rfl _ (j * 64) rfl (bl 64 (zrow Ua j)) _ ((hU.zw hb).range hrowU) Try.underlying28 rfl (by rw [zl]; exact Try.size28) ?_) | (go_at_call 84; refine (HR1.out _).mono ?_; rintro e W2 ⟨rfl, hW2⟩; replace B0 := B0.zw hW2; replace hb := (hb).trans (hW2.mono (hb).size)) | (refine wpList_store_blk rfl 28 (.tmp 12) (.tmp 63) rfl _ 64 (strP (n ^ i) (zrow Ua j)) rfl rfl 28 _ ((Blk.new W2 64 28 (fun _ => 0))) Try.size28 ?_; try simp only [Act.put]; go_upto_region 13 with (fail)))
           have lt_B0 := B0.lt
           have lhb := hb.size
           obtain ⟨W3, hwo, hzQ⟩ : ∃ v : World, v = ((W2.alloc (.cells (zb 64 (fun _ => 0)) 28)).setRow (W2.heap.size) (zb 64 (strP (n ^ i) (zrow Ua j)))) ∧ Blk v (N1) (M * 64) 28 (fl 64 O) ∧ Blk v (W2.heap.size) 64 28 (strP (n ^ i) (zrow Ua j)) ∧ Below w.heap.size w v := ⟨_, rfl, ((B0.alloc (.cells (zb 64 (fun _ => 0)) 28)).rowOther (by omega)), ((Blk.new W2 64 28 (fun _ => 0)).row (strP (n ^ i) (zrow Ua j))), (zr (hb.alloc (by have := hb.size; simp; omega) (.cells (zb 64 (fun _ => 0)) 28)) (by omega) _)⟩
           rw [← hwo]
           clear hwo B0 hb
           obtain ⟨B0, B1, hb⟩ := hzQ
           obtain ⟨N2, hNN⟩ : ∃ n : Nat, n = W2.heap.size := ⟨_, rfl⟩
           rw [← hNN] at lt_B0 lhb B1 ⊢
           clear hNN
           have zN2_0 := lt_B0
           have zN2 := lhb
           clear lt_B0 lhb
           try simp only [Act.put, pA, pB, pC]
           have lt_B0 : (N1) < W3.heap.size := B0.lt
           have lt_B1 : (N2) < W3.heap.size := B1.lt
           refine zq Try.mixed (by kernel_rfl) (by kernel_rfl) (fun v => by (simp only [frL, Act.put, pA, pB, pC, Nat.reduceAdd, Nat.zero_add]; exact rfl))
            (fun L v W4 => Below W3.heap.size W3 W4 ∧ (L 10 = true → AF (v 10) W4 W3.heap.size 64 28) ∧ (L 11 = true → PF (v 10) W4 W3.heap.size 64 28 (coX n (zrow Va i) (zrow Ua j) i)) ∧ VF L v [some (.int .i64 (n : Int)), some (.slice (some ⟨bV, 0, none⟩) Va.length Va.length), some (.int .i64 (i : Int)), some (.pointer (some ⟨bV, i * 64, none⟩)), some (.agg (zb 64 (zrow Va i))), some (.agg (zb 64 (strP (n ^ i) (zrow Ua j)))), some (.tuple #[(.agg (zb 64 (coX n (zrow Va i) (zrow Ua j) i))), (.bool true)]), some (.tuple #[(.agg (zb 64 (coX n (zrow Va i) (zrow Ua j) i))), (.bool true)]), some (.agg (zb 64 (coX n (zrow Va i) (zrow Ua j) i))), some (.bool true), none, none, some (.bool true)]) ?_ ?_ ?_
           · intro v hv0
             exact ⟨(Below.refl _ W3).drew, (fun h => by cases h), (fun h => by cases h), VF.start⟩
           · refine (.cons rfl ?_ (.cons rfl ?_ (.cons rfl ?_ (.cons rfl ?_ (.cons rfl ?_ (.cons rfl ?_ (.cons rfl ?_ (.cons rfl ?_ (.cons rfl ?_ (.cons rfl ?_ (.cons rfl ?_ (.cons rfl ?_ (.cons rfl ?_ (.nil _))))))))))))))
             all_goals intro L v W4 hd hn ⟨hY, h10, h11, V⟩ K hK
             · go_wp2_with fail
               exact hK _ (.int .i64 (n : Int)) _ (by simp only [Act.put, pA, pB, pC ]) ⟨hY, h10, h11, V.step 0 rfl⟩
             · go_wp2_with fail
               exact hK _ (.slice (some ⟨bV, 0, none⟩) Va.length Va.length) _ (by simp only [Act.put, pA, pB, pC ]) ⟨hY, h10, h11, V.step 1 rfl⟩
             · go_wp2_with fail
               exact hK _ (.int .i64 (i : Int)) _ (by simp only [Act.put, pA, pB, pC ]) ⟨hY, h10, h11, V.step 2 rfl⟩
             · have e1 := V.at (zdq hd 1 rfl) rfl
               have e2 := V.at (zdq hd 2 rfl) rfl
               go_wp2_with fail
               exact hK _ (.pointer (some ⟨bV, i * 64, none⟩)) _ (by simp only [Act.put, pA, pB, pC, e1, e2]) ⟨hY, h10, h11, V.step 3 rfl⟩
             · have e3 := V.at (zdq hd 3 rfl) rfl
               refine wp_load_mid 28 _ rfl _ (i * 64) e3 _ _ ((hV.below (by first | exact hB | exact hb.trans (hY.mono hb.size)) hV.lt).range hrowV) Try.underlying28 rfl (by rw [zl]; exact Try.size28) ?_
               exact hK _ _ _ rfl ⟨hY, h10, h11, V.step 4 rfl⟩
             · refine zlc (B1.zw hY) Try.underlying28 Try.size28 ?_
               exact hK _ _ _ rfl ⟨hY, h10, h11, V.step 5 rfl⟩
             · have e0 := V.at (zdq hd 0 rfl) rfl
               have e4 := V.at (zdq hd 4 rfl) rfl
               have e5 := V.at (zdq hd 5 rfl) rfl
               go_wp2_with (go_at_call 85; refine (HT1.out _).mono ?_; rintro e wy ⟨rfl, hy⟩)
               exact hK _ (.tuple #[(.agg (zb 64 (coX n (zrow Va i) (zrow Ua j) i))), (.bool true)]) _ (by simp only [Act.put, pA, pB, pC, e0, e4, e5]) ⟨hY.trans (hy.mono hY.size), (fun h => (h10 h).below hy), (fun h => (h11 h).below hy), V.step 6 rfl⟩
             · have e6 := V.at (zdq hd 6 rfl) rfl
               go_wp2_with fail
               exact hK _ (.tuple #[(.agg (zb 64 (coX n (zrow Va i) (zrow Ua j) i))), (.bool true)]) _ (by simp only [Act.put, pA, pB, pC, e6]) ⟨hY, h10, h11, V.step 7 rfl⟩
             · have e7 := V.at (zdq hd 7 rfl) rfl
               go_wp2_with fail
               exact hK _ (.agg (zb 64 (coX n (zrow Va i) (zrow Ua j) i))) _ (by simp only [Act.put, pA, pB, pC, e7]) ⟨hY, h10, h11, V.step 8 rfl⟩
             · have e7 := V.at (zdq hd 7 rfl) rfl
               go_wp2_with fail
               exact hK _ (.bool true) _ (by simp only [Act.put, pA, pB, pC, e7]) ⟨hY, h10, h11, V.step 9 rfl⟩
             · go_wp2_with fail
               rw [← z64]
               exact hK _ (.pointer (some ⟨W4.heap.size, 0, none⟩)) _ (by simp only [Act.put, pA, pB, pC ]) ⟨hY.alloc hY.size _, (fun _ => (PF.new W4 64 28 _ hY.size).af), (fun h => absurd rfl (hn 11 _ rfl h ⟨10, .data⟩ (by simp) rfl)), V.skip 10 rfl⟩
             · have e8 := V.at (zdq hd 8 rfl) rfl
               obtain ⟨gz, b, ea, hN, hk⟩ := (h10 (zdq hd 10 rfl)).out
               refine zsb 28 _ _ rfl b 64 (coX n (zrow Va i) (zrow Ua j) i) ea e8 28 gz hk Try.size28 ?_
               exact hK _ undef _ rfl ⟨zr hY hN _, (fun h => (h10 h).row hk), (fun _ => by rw [show updV v 11 undef 10 = v 10 from rfl, ea]; exact PF.row hk hN _), V.skip 11 rfl⟩
             · have e9 := V.at (zdq hd 9 rfl) rfl
               go_wp2_with fail
               exact hK _ (.bool true) _ (by simp only [Act.put, pA, pB, pC, e9]) ⟨hY, h10, h11, V.step 12 rfl⟩
           · intro L v W4 hL ⟨hY, h10, h11, V⟩
             obtain ⟨k13_10, e10, hNk13_10, hk13_10⟩ := (h11 (hL 11 (by decide))).out
             have e0 := V.at (hL 0 (by decide)) rfl
             have e1 := V.at (hL 1 (by decide)) rfl
             have e2 := V.at (hL 2 (by decide)) rfl
             have e3 := V.at (hL 3 (by decide)) rfl
             have e4 := V.at (hL 4 (by decide)) rfl
             have e5 := V.at (hL 5 (by decide)) rfl
             have e6 := V.at (hL 6 (by decide)) rfl
             have e7 := V.at (hL 7 (by decide)) rfl
             have e8 := V.at (hL 8 (by decide)) rfl
             have e9 := V.at (hL 9 (by decide)) rfl
             have e12 := V.at (hL 12 (by decide)) rfl
             clear hL h10 h11 V
             replace B0 := B0.zw hY
             replace B1 := B1.zw hY
             replace hb := hb.trans (hY.mono hb.size)
             clear hY
             simp only [Exit.then, e10, e0, e1, e2, e3, e4, e5, e6, e7, e8, e9, e12]
             clear e10 e0 e1 e2 e3 e4 e5 e6 e7 e8 e9 e12
             have B2 := hk13_10
             clear hk13_10
             have zk13_10_0 : N1 < k13_10 := by omega
             have zk13_10_1 : N2 < k13_10 := by omega
             clear lt_B0 lt_B1
             go_upto_region 16 with (fail)
             have lt_B0 : (N1) < W4.heap.size := B0.lt
             have lt_B1 : (N2) < W4.heap.size := B1.lt
             have lt_B2 : (k13_10) < W4.heap.size := B2.lt
             have hbase : w.heap.size ≤ W4.heap.size := hb.size
             refine zq Try.mixed (by kernel_rfl) (by kernel_rfl) (fun v => by (simp only [frL, Act.put, pA, pB, pC, Nat.reduceAdd, Nat.zero_add]; exact rfl))
              (fun L v W5 => Below w.heap.size w W5 ∧ Kx [N1] W4 W5 ∧ (∃ g, Blk W5 (N1) (M * 64) 28 (g)) ∧ (L 14 = false → Blk W5 (N1) (M * 64) 28 (fl 64 O)) ∧ (L 14 = true → Blk W5 (N1) (M * 64) 28 (fl 64 (updR O Q (addK n (O Q) (coX n (zrow Va i) (zrow Ua j) i) 1)))) ∧ VF L v [some (.slice (some ⟨N1, 0, none⟩) M M), some (.int .i64 (i : Int)), some (.int .i64 (j : Int)), some (.int .i64 (Q : Int)), some (.int .i64 (n : Int)), some (.slice (some ⟨N1, 0, none⟩) M M), some (.int .i64 (i : Int)), some (.int .i64 (j : Int)), some (.int .i64 (Q : Int)), some (.pointer (some ⟨N1, Q * 64, none⟩)), some (.agg (zb 64 (O Q))), some (.agg (zb 64 (coX n (zrow Va i) (zrow Ua j) i))), some (.agg (zb 64 (addK n (O Q) (coX n (zrow Va i) (zrow Ua j) i) 1))), some (.pointer (some ⟨N1, Q * 64, none⟩)), none]) ?_ ?_ ?_
             · intro v hv0
               exact ⟨hb.drew, Kx.start _ _, ⟨_, B0.drew⟩, (fun _ => B0.drew), (fun h => by cases h), VF.start⟩
             · refine (.cons rfl ?_ (.cons rfl ?_ (.cons rfl ?_ (.cons rfl ?_ (.cons rfl ?_ (.cons rfl ?_ (.cons rfl ?_ (.cons rfl ?_ (.cons rfl ?_ (.cons rfl ?_ (.cons rfl ?_ (.cons rfl ?_ (.cons rfl ?_ (.cons rfl ?_ (.cons rfl ?_ (.nil _))))))))))))))))
               all_goals intro L v W5 hd hn ⟨hB, hX, x0, q0, n0, V⟩ K hK
               · go_wp2_with fail
                 exact hK _ (.slice (some ⟨N1, 0, none⟩) M M) _ (by simp only [Act.put, pA, pB, pC ]) ⟨hB, hX, x0, q0, n0, V.step 0 rfl⟩
               · go_wp2_with fail
                 exact hK _ (.int .i64 (i : Int)) _ (by simp only [Act.put, pA, pB, pC ]) ⟨hB, hX, x0, q0, n0, V.step 1 rfl⟩
               · go_wp2_with fail
                 exact hK _ (.int .i64 (j : Int)) _ (by simp only [Act.put, pA, pB, pC ]) ⟨hB, hX, x0, q0, n0, V.step 2 rfl⟩
               · have e1 := V.at (zdq hd 1 rfl) rfl
                 have e2 := V.at (zdq hd 2 rfl) rfl
                 go_wp2_with fail
                 exact hK _ (.int .i64 (Q : Int)) _ (by simp only [Act.put, pA, pB, pC, e1, e2]) ⟨hB, hX, x0, q0, n0, V.step 3 rfl⟩
               · go_wp2_with fail
                 exact hK _ (.int .i64 (n : Int)) _ (by simp only [Act.put, pA, pB, pC ]) ⟨hB, hX, x0, q0, n0, V.step 4 rfl⟩
               · go_wp2_with fail
                 exact hK _ (.slice (some ⟨N1, 0, none⟩) M M) _ (by simp only [Act.put, pA, pB, pC ]) ⟨hB, hX, x0, q0, n0, V.step 5 rfl⟩
               · go_wp2_with fail
                 exact hK _ (.int .i64 (i : Int)) _ (by simp only [Act.put, pA, pB, pC ]) ⟨hB, hX, x0, q0, n0, V.step 6 rfl⟩
               · go_wp2_with fail
                 exact hK _ (.int .i64 (j : Int)) _ (by simp only [Act.put, pA, pB, pC ]) ⟨hB, hX, x0, q0, n0, V.step 7 rfl⟩
               · have e6 := V.at (zdq hd 6 rfl) rfl
                 have e7 := V.at (zdq hd 7 rfl) rfl
                 go_wp2_with fail
                 exact hK _ (.int .i64 (Q : Int)) _ (by simp only [Act.put, pA, pB, pC, e6, e7]) ⟨hB, hX, x0, q0, n0, V.step 8 rfl⟩
               · have e5 := V.at (zdq hd 5 rfl) rfl
                 have e8 := V.at (zdq hd 8 rfl) rfl
                 go_wp2_with fail
                 exact hK _ (.pointer (some ⟨N1, Q * 64, none⟩)) _ (by simp only [Act.put, pA, pB, pC, e5, e8]) ⟨hB, hX, x0, q0, n0, V.step 9 rfl⟩
               · have e9 := V.at (zdq hd 9 rfl) rfl
                 have s0 := q0 (by
                  cases hL : L 14 with
                  | false => rfl
                  | true => exact absurd rfl (hn 14 _ rfl hL ⟨10, .phase⟩ (by simp) rfl))
                 refine wp_load_mid 28 _ rfl _ (Q * 64) e9 _ _ ((s0).rowF (r := M) (c := 64) (by omega)) Try.underlying28 rfl (by rw [zl]; exact Try.size28) ?_
                 exact hK _ _ _ rfl ⟨hB, hX, x0, q0, n0, V.step 10 rfl⟩
               · refine wp_load_any 28 _ rfl _ rfl 64 28 _ (B2.kx hX (by simp <;> omega)) _ Try.underlying28 rfl Try.size28 ?_
                 exact hK _ _ _ rfl ⟨hB, hX, x0, q0, n0, V.step 11 rfl⟩
               · have e4 := V.at (zdq hd 4 rfl) rfl
                 have e10 := V.at (zdq hd 10 rfl) rfl
                 have e11 := V.at (zdq hd 11 rfl) rfl
                 go_wp2_with (go_at_call 80; refine (HA1.out _).mono ?_; rintro e wy ⟨rfl, hy⟩)
                 exact hK _ (.agg (zb 64 (addK n (O Q) (coX n (zrow Va i) (zrow Ua j) i) 1))) _ (by simp only [Act.put, pA, pB, pC, e4, e10, e11]) ⟨hB.trans (hy.mono hB.size), hX.below hy, (let ⟨g, h⟩ := x0; ⟨g, h.zw hy⟩), (fun h => (q0 h).below hy (q0 h).lt), (fun h => (n0 h).below hy (n0 h).lt), V.step 12 rfl⟩
               · have e0 := V.at (zdq hd 0 rfl) rfl
                 have e3 := V.at (zdq hd 3 rfl) rfl
                 go_wp2_with fail
                 exact hK _ (.pointer (some ⟨N1, Q * 64, none⟩)) _ (by simp only [Act.put, pA, pB, pC, e0, e3]) ⟨hB, hX, x0, q0, n0, V.step 13 rfl⟩
               · have e13 := V.at (zdq hd 13 rfl) rfl
                 have e12 := V.at (zdq hd 12 rfl) rfl
                 obtain ⟨gz, hk, hg⟩ : ∃ gz, Blk W5 (N1) (M * 64) 28 (fl 64 gz) ∧ updR gz (Q) (addK n (O Q) (coX n (zrow Va i) (zrow Ua j) i) 1) = updR O (Q) (addK n (O Q) (coX n (zrow Va i) (zrow Ua j) i) 1) := by
                  cases hL : L 14 with
                  | false => exact ⟨_, q0 hL, rfl⟩
                  | true => exact ⟨_, n0 hL, updR_twice _ _ _⟩
                 refine wp_store_rowF 28 _ _ rfl _ (Q) 64 M (addK n (O Q) (coX n (zrow Va i) (zrow Ua j) i) 1) e13 e12 28 gz hk (by omega) (by decide) Try.size28 ?_
                 rw [hg]
                 exact hK _ undef _ rfl ⟨zr hB (by omega) _, hX.row (by simp) _, ⟨_, hk.row _⟩, (fun h => absurd h (by simp [setL])), (fun _ => hk.row _), V.skip 14 rfl⟩
             · intro L v W5 hL ⟨hB, hX, x0, q0, n0, V⟩
               have r0 := n0 (hL 14 (by decide))
               have e0 := V.at (hL 0 (by decide)) rfl
               have e1 := V.at (hL 1 (by decide)) rfl
               have e2 := V.at (hL 2 (by decide)) rfl
               have e3 := V.at (hL 3 (by decide)) rfl
               have e4 := V.at (hL 4 (by decide)) rfl
               have e5 := V.at (hL 5 (by decide)) rfl
               have e6 := V.at (hL 6 (by decide)) rfl
               have e7 := V.at (hL 7 (by decide)) rfl
               have e8 := V.at (hL 8 (by decide)) rfl
               have e9 := V.at (hL 9 (by decide)) rfl
               have e10 := V.at (hL 10 (by decide)) rfl
               have e11 := V.at (hL 11 (by decide)) rfl
               have e12 := V.at (hL 12 (by decide)) rfl
               have e13 := V.at (hL 13 (by decide)) rfl
               clear hL x0 q0 n0 V
               replace B1 := B1.kx hX (by simp <;> omega)
               replace B2 := B2.kx hX (by simp <;> omega)
               clear hX
               simp only [Exit.then, e0, e1, e2, e3, e4, e5, e6, e7, e8, e9, e10, e11, e12, e13]
               clear e0 e1 e2 e3 e4 e5 e6 e7 e8 e9 e10 e11 e12 e13
               replace B0 := r0
               clear r0
               replace hb := hB
               clear hB
               clear hbase lt_B0 lt_B1 lt_B2
               go_wp2_with fail
               go_roundw
               case rel => exact ⟨j + 1, _, by go_num, by omega, Lib.hid (by rw [HK.out, ← hO.out, ← HQ.out]), Lib.hid (fun b hb2 => by
                by_cases e : b = j
                · subst e; exact HQ9.out
                · exact hqI.out b (by omega)), hb, hlw, B0⟩
               case measure => simp [intOf] <;> omega
         · by_cases h1 : deg (zrow Ua j) * ((n ^ i : Nat) : Int) ≤ 63
           · have h2 : ¬ deg (zrow Va i) + deg (strP (n ^ i) (zrow Ua j)) ≤ 63 := fun h2 => hgp ⟨h1, h2⟩
             have HR1 := Lib.hid (HRA.out i hi j h1)
             have HT1 := Lib.hid (HTM.out i j _ (HRL.out i j))
             rw [HTB.out i j (by omega)] at HT1
             clear hzF hzG hgp h1 h2
             go_upto_region 12 with (first | (refine wpList_load_mid rfl 28 (.tmp 43) rfl _ (i * 64) rfl (bl 64 (zrow Va i)) _ ((hV.zw hb).range hrowV) Try.underlying28 rfl (by rw [zl]; exact Try.size28) ?_) | (refine wpList_load_mid_g rfl 28 (.tmp 50) rfl _ (j * 64) rfl (bl 64 (zrow Ua j)) _ ((hU.zw hb).range hrowU) Try.underlying28 rfl (by rw [zl]; exact Try.size28) ?_) | rw [← z64])
             clear heqF heqG hgdz
             have lt_B0 := B0.lt
             go_upto_region 13 with (first | rw [← z64] | (refine wpList_load_mid rfl 28 (.tmp 59) rfl _ (j * 64) rfl (bl 64 (zrow Ua j)) _ ((hU.zw hb).range hrowU) Try.underlying28 rfl (by rw [zl]; exact Try.size28) ?_) | (go_at_call 84; refine (HR1.out _).mono ?_; rintro e W2 ⟨rfl, hW2⟩; replace B0 := B0.zw hW2; replace hb := (hb).trans (hW2.mono (hb).size)) | (refine wpList_store_blk rfl 28 (.tmp 12) (.tmp 63) rfl _ 64 (strP (n ^ i) (zrow Ua j)) rfl rfl 28 _ ((Blk.new W2 64 28 (fun _ => 0))) Try.size28 ?_; try simp only [Act.put]; go_upto_region 13 with (fail)))
             have lt_B0 := B0.lt
             have lhb := hb.size
             obtain ⟨W3, hwo, hzQ⟩ : ∃ v : World, v = ((W2.alloc (.cells (zb 64 (fun _ => 0)) 28)).setRow (W2.heap.size) (zb 64 (strP (n ^ i) (zrow Ua j)))) ∧ Blk v (N1) (M * 64) 28 (fl 64 O) ∧ Blk v (W2.heap.size) 64 28 (strP (n ^ i) (zrow Ua j)) ∧ Below w.heap.size w v := ⟨_, rfl, ((B0.alloc (.cells (zb 64 (fun _ => 0)) 28)).rowOther (by omega)), ((Blk.new W2 64 28 (fun _ => 0)).row (strP (n ^ i) (zrow Ua j))), (zr (hb.alloc (by have := hb.size; simp; omega) (.cells (zb 64 (fun _ => 0)) 28)) (by omega) _)⟩
             rw [← hwo]
             clear hwo B0 hb
             obtain ⟨B0, B1, hb⟩ := hzQ
             obtain ⟨N2, hNN⟩ : ∃ n : Nat, n = W2.heap.size := ⟨_, rfl⟩
             rw [← hNN] at lt_B0 lhb B1 ⊢
             clear hNN
             have zN2_0 := lt_B0
             have zN2 := lhb
             clear lt_B0 lhb
             try simp only [Act.put, pA, pB, pC]
             have lt_B0 : (N1) < W3.heap.size := B0.lt
             have lt_B1 : (N2) < W3.heap.size := B1.lt
             refine zq Try.mixed (by kernel_rfl) (by kernel_rfl) (fun v => by (simp only [frL, Act.put, pA, pB, pC, Nat.reduceAdd, Nat.zero_add]; exact rfl))
              (fun L v W4 => Below W3.heap.size W3 W4 ∧ (L 10 = true → AF (v 10) W4 W3.heap.size 64 28) ∧ (L 11 = true → PF (v 10) W4 W3.heap.size 64 28 (fun _ => 0)) ∧ VF L v [some (.int .i64 (n : Int)), some (.slice (some ⟨bV, 0, none⟩) Va.length Va.length), some (.int .i64 (i : Int)), some (.pointer (some ⟨bV, i * 64, none⟩)), some (.agg (zb 64 (zrow Va i))), some (.agg (zb 64 (strP (n ^ i) (zrow Ua j)))), some (.tuple #[(.agg (zb 64 (fun _ => 0))), (.bool false)]), some (.tuple #[(.agg (zb 64 (fun _ => 0))), (.bool false)]), some (.agg (zb 64 (fun _ => 0))), some (.bool false), none, none, some (.bool false)]) ?_ ?_ ?_
             · intro v hv0
               exact ⟨(Below.refl _ W3).drew, (fun h => by cases h), (fun h => by cases h), VF.start⟩
             · refine (.cons rfl ?_ (.cons rfl ?_ (.cons rfl ?_ (.cons rfl ?_ (.cons rfl ?_ (.cons rfl ?_ (.cons rfl ?_ (.cons rfl ?_ (.cons rfl ?_ (.cons rfl ?_ (.cons rfl ?_ (.cons rfl ?_ (.cons rfl ?_ (.nil _))))))))))))))
               all_goals intro L v W4 hd hn ⟨hY, h10, h11, V⟩ K hK
               · go_wp2_with fail
                 exact hK _ (.int .i64 (n : Int)) _ (by simp only [Act.put, pA, pB, pC ]) ⟨hY, h10, h11, V.step 0 rfl⟩
               · go_wp2_with fail
                 exact hK _ (.slice (some ⟨bV, 0, none⟩) Va.length Va.length) _ (by simp only [Act.put, pA, pB, pC ]) ⟨hY, h10, h11, V.step 1 rfl⟩
               · go_wp2_with fail
                 exact hK _ (.int .i64 (i : Int)) _ (by simp only [Act.put, pA, pB, pC ]) ⟨hY, h10, h11, V.step 2 rfl⟩
               · have e1 := V.at (zdq hd 1 rfl) rfl
                 have e2 := V.at (zdq hd 2 rfl) rfl
                 go_wp2_with fail
                 exact hK _ (.pointer (some ⟨bV, i * 64, none⟩)) _ (by simp only [Act.put, pA, pB, pC, e1, e2]) ⟨hY, h10, h11, V.step 3 rfl⟩
               · have e3 := V.at (zdq hd 3 rfl) rfl
                 refine wp_load_mid 28 _ rfl _ (i * 64) e3 _ _ ((hV.below (by first | exact hB | exact hb.trans (hY.mono hb.size)) hV.lt).range hrowV) Try.underlying28 rfl (by rw [zl]; exact Try.size28) ?_
                 exact hK _ _ _ rfl ⟨hY, h10, h11, V.step 4 rfl⟩
               · refine zlc (B1.zw hY) Try.underlying28 Try.size28 ?_
                 exact hK _ _ _ rfl ⟨hY, h10, h11, V.step 5 rfl⟩
               · have e0 := V.at (zdq hd 0 rfl) rfl
                 have e4 := V.at (zdq hd 4 rfl) rfl
                 have e5 := V.at (zdq hd 5 rfl) rfl
                 go_wp2_with (go_at_call 85; refine (HT1.out _).mono ?_; rintro e wy ⟨rfl, hy⟩)
                 exact hK _ (.tuple #[(.agg (zb 64 (fun _ => 0))), (.bool false)]) _ (by simp only [Act.put, pA, pB, pC, e0, e4, e5]) ⟨hY.trans (hy.mono hY.size), (fun h => (h10 h).below hy), (fun h => (h11 h).below hy), V.step 6 rfl⟩
               · have e6 := V.at (zdq hd 6 rfl) rfl
                 go_wp2_with fail
                 exact hK _ (.tuple #[(.agg (zb 64 (fun _ => 0))), (.bool false)]) _ (by simp only [Act.put, pA, pB, pC, e6]) ⟨hY, h10, h11, V.step 7 rfl⟩
               · have e7 := V.at (zdq hd 7 rfl) rfl
                 go_wp2_with fail
                 exact hK _ (.agg (zb 64 (fun _ => 0))) _ (by simp only [Act.put, pA, pB, pC, e7]) ⟨hY, h10, h11, V.step 8 rfl⟩
               · have e7 := V.at (zdq hd 7 rfl) rfl
                 go_wp2_with fail
                 exact hK _ (.bool false) _ (by simp only [Act.put, pA, pB, pC, e7]) ⟨hY, h10, h11, V.step 9 rfl⟩
               · go_wp2_with fail
                 rw [← z64]
                 exact hK _ (.pointer (some ⟨W4.heap.size, 0, none⟩)) _ (by simp only [Act.put, pA, pB, pC ]) ⟨hY.alloc hY.size _, (fun _ => (PF.new W4 64 28 _ hY.size).af), (fun h => absurd rfl (hn 11 _ rfl h ⟨10, .data⟩ (by simp) rfl)), V.skip 10 rfl⟩
               · have e8 := V.at (zdq hd 8 rfl) rfl
                 obtain ⟨gz, b, ea, hN, hk⟩ := (h10 (zdq hd 10 rfl)).out
                 refine zsb 28 _ _ rfl b 64 (fun _ => 0) ea e8 28 gz hk Try.size28 ?_
                 exact hK _ undef _ rfl ⟨zr hY hN _, (fun h => (h10 h).row hk), (fun _ => by rw [show updV v 11 undef 10 = v 10 from rfl, ea]; exact PF.row hk hN _), V.skip 11 rfl⟩
               · have e9 := V.at (zdq hd 9 rfl) rfl
                 go_wp2_with fail
                 exact hK _ (.bool false) _ (by simp only [Act.put, pA, pB, pC, e9]) ⟨hY, h10, h11, V.step 12 rfl⟩
             · intro L v W4 hL ⟨hY, h10, h11, V⟩
               obtain ⟨k13_10, e10, hNk13_10, hk13_10⟩ := (h11 (hL 11 (by decide))).out
               have e0 := V.at (hL 0 (by decide)) rfl
               have e1 := V.at (hL 1 (by decide)) rfl
               have e2 := V.at (hL 2 (by decide)) rfl
               have e3 := V.at (hL 3 (by decide)) rfl
               have e4 := V.at (hL 4 (by decide)) rfl
               have e5 := V.at (hL 5 (by decide)) rfl
               have e6 := V.at (hL 6 (by decide)) rfl
               have e7 := V.at (hL 7 (by decide)) rfl
               have e8 := V.at (hL 8 (by decide)) rfl
               have e9 := V.at (hL 9 (by decide)) rfl
               have e12 := V.at (hL 12 (by decide)) rfl
               clear hL h10 h11 V
               replace B0 := B0.zw hY
               replace B1 := B1.zw hY
               replace hb := hb.trans (hY.mono hb.size)
               clear hY
               simp only [Exit.then, e10, e0, e1, e2, e3, e4, e5, e6, e7, e8, e9, e12]
               clear e10 e0 e1 e2 e3 e4 e5 e6 e7 e8 e9 e12
               have B2 := hk13_10
               clear hk13_10
               have zk13_10_0 : N1 < k13_10 := by omega
               have zk13_10_1 : N2 < k13_10 := by omega
               clear lt_B0 lt_B1
               go_wp2_with fail
               go_ret2
               exact ⟨_, by rw [HV.out]; rfl, by rw [HV.out, plR_nil]; exact SlL.nil _ _ hb.size, hb⟩
           · have HR1 := Lib.hid (HRN.out i hi j (by omega))
             obtain ⟨TM, hTM⟩ : ∃ T, T = tmV n (zrow Va i) (fun _ => 0) := ⟨_, rfl⟩
             have HT1 := Lib.hid (HTM.out i j (fun _ => 0) (fun k _ => by show 0 < n; omega))
             rw [← hTM] at HT1
             clear hzF hzG hgp h1 hTM
             go_upto_region 12 with (first | (refine wpList_load_mid rfl 28 (.tmp 43) rfl _ (i * 64) rfl (bl 64 (zrow Va i)) _ ((hV.zw hb).range hrowV) Try.underlying28 rfl (by rw [zl]; exact Try.size28) ?_) | (refine wpList_load_mid_g rfl 28 (.tmp 50) rfl _ (j * 64) rfl (bl 64 (zrow Ua j)) _ ((hU.zw hb).range hrowU) Try.underlying28 rfl (by rw [zl]; exact Try.size28) ?_) | rw [← z64])
             clear heqF heqG hgdz
             have lt_B0 := B0.lt
             go_upto_region 13 with (first | rw [← z64] | (refine wpList_load_mid rfl 28 (.tmp 59) rfl _ (j * 64) rfl (bl 64 (zrow Ua j)) _ ((hU.zw hb).range hrowU) Try.underlying28 rfl (by rw [zl]; exact Try.size28) ?_) | (go_at_call 84; refine (HR1.out _).mono ?_; rintro e W2 ⟨rfl, hW2⟩; replace B0 := B0.zw hW2; replace hb := (hb).trans (hW2.mono (hb).size)) | (refine wpList_store_blk rfl 28 (.tmp 12) (.tmp 63) rfl _ 64 (fun _ => 0) rfl rfl 28 _ ((Blk.new W2 64 28 (fun _ => 0))) Try.size28 ?_; try simp only [Act.put]; go_upto_region 13 with (fail)))
             have lt_B0 := B0.lt
             have lhb := hb.size
             obtain ⟨W3, hwo, hzQ⟩ : ∃ v : World, v = ((W2.alloc (.cells (zb 64 (fun _ => 0)) 28)).setRow (W2.heap.size) (zb 64 (fun _ => 0))) ∧ Blk v (N1) (M * 64) 28 (fl 64 O) ∧ Blk v (W2.heap.size) 64 28 (fun _ => 0) ∧ Below w.heap.size w v := ⟨_, rfl, ((B0.alloc (.cells (zb 64 (fun _ => 0)) 28)).rowOther (by omega)), ((Blk.new W2 64 28 (fun _ => 0)).row (fun _ => 0)), (zr (hb.alloc (by have := hb.size; simp; omega) (.cells (zb 64 (fun _ => 0)) 28)) (by omega) _)⟩
             rw [← hwo]
             clear hwo B0 hb
             obtain ⟨B0, B1, hb⟩ := hzQ
             obtain ⟨N2, hNN⟩ : ∃ n : Nat, n = W2.heap.size := ⟨_, rfl⟩
             rw [← hNN] at lt_B0 lhb B1 ⊢
             clear hNN
             have zN2_0 := lt_B0
             have zN2 := lhb
             clear lt_B0 lhb
             try simp only [Act.put, pA, pB, pC]
             have lt_B0 : (N1) < W3.heap.size := B0.lt
             have lt_B1 : (N2) < W3.heap.size := B1.lt
             refine zq Try.mixed (by kernel_rfl) (by kernel_rfl) (fun v => by (simp only [frL, Act.put, pA, pB, pC, Nat.reduceAdd, Nat.zero_add]; exact rfl))
              (fun L v W4 => Below W3.heap.size W3 W4 ∧ (L 10 = true → AF (v 10) W4 W3.heap.size 64 28) ∧ (L 11 = true → PF (v 10) W4 W3.heap.size 64 28 (TM.1)) ∧ VF L v [some (.int .i64 (n : Int)), some (.slice (some ⟨bV, 0, none⟩) Va.length Va.length), some (.int .i64 (i : Int)), some (.pointer (some ⟨bV, i * 64, none⟩)), some (.agg (zb 64 (zrow Va i))), some (.agg (zb 64 (fun _ => 0))), some (.tuple #[(.agg (zb 64 (TM.1))), (.bool TM.2)]), some (.tuple #[(.agg (zb 64 (TM.1))), (.bool TM.2)]), some (.agg (zb 64 (TM.1))), some (.bool TM.2), none, none, some (.bool TM.2)]) ?_ ?_ ?_
             · intro v hv0
               exact ⟨(Below.refl _ W3).drew, (fun h => by cases h), (fun h => by cases h), VF.start⟩
             · refine (.cons rfl ?_ (.cons rfl ?_ (.cons rfl ?_ (.cons rfl ?_ (.cons rfl ?_ (.cons rfl ?_ (.cons rfl ?_ (.cons rfl ?_ (.cons rfl ?_ (.cons rfl ?_ (.cons rfl ?_ (.cons rfl ?_ (.cons rfl ?_ (.nil _))))))))))))))
               all_goals intro L v W4 hd hn ⟨hY, h10, h11, V⟩ K hK
               · go_wp2_with fail
                 exact hK _ (.int .i64 (n : Int)) _ (by simp only [Act.put, pA, pB, pC ]) ⟨hY, h10, h11, V.step 0 rfl⟩
               · go_wp2_with fail
                 exact hK _ (.slice (some ⟨bV, 0, none⟩) Va.length Va.length) _ (by simp only [Act.put, pA, pB, pC ]) ⟨hY, h10, h11, V.step 1 rfl⟩
               · go_wp2_with fail
                 exact hK _ (.int .i64 (i : Int)) _ (by simp only [Act.put, pA, pB, pC ]) ⟨hY, h10, h11, V.step 2 rfl⟩
               · have e1 := V.at (zdq hd 1 rfl) rfl
                 have e2 := V.at (zdq hd 2 rfl) rfl
                 go_wp2_with fail
                 exact hK _ (.pointer (some ⟨bV, i * 64, none⟩)) _ (by simp only [Act.put, pA, pB, pC, e1, e2]) ⟨hY, h10, h11, V.step 3 rfl⟩
               · have e3 := V.at (zdq hd 3 rfl) rfl
                 refine wp_load_mid 28 _ rfl _ (i * 64) e3 _ _ ((hV.below (by first | exact hB | exact hb.trans (hY.mono hb.size)) hV.lt).range hrowV) Try.underlying28 rfl (by rw [zl]; exact Try.size28) ?_
                 exact hK _ _ _ rfl ⟨hY, h10, h11, V.step 4 rfl⟩
               · refine zlc (B1.zw hY) Try.underlying28 Try.size28 ?_
                 exact hK _ _ _ rfl ⟨hY, h10, h11, V.step 5 rfl⟩
               · have e0 := V.at (zdq hd 0 rfl) rfl
                 have e4 := V.at (zdq hd 4 rfl) rfl
                 have e5 := V.at (zdq hd 5 rfl) rfl
                 go_wp2_with (go_at_call 85; refine (HT1.out _).mono ?_; rintro e wy ⟨rfl, hy⟩)
                 exact hK _ (.tuple #[(.agg (zb 64 (TM.1))), (.bool TM.2)]) _ (by simp only [Act.put, pA, pB, pC, e0, e4, e5]) ⟨hY.trans (hy.mono hY.size), (fun h => (h10 h).below hy), (fun h => (h11 h).below hy), V.step 6 rfl⟩
               · have e6 := V.at (zdq hd 6 rfl) rfl
                 go_wp2_with fail
                 exact hK _ (.tuple #[(.agg (zb 64 (TM.1))), (.bool TM.2)]) _ (by simp only [Act.put, pA, pB, pC, e6]) ⟨hY, h10, h11, V.step 7 rfl⟩
               · have e7 := V.at (zdq hd 7 rfl) rfl
                 go_wp2_with fail
                 exact hK _ (.agg (zb 64 (TM.1))) _ (by simp only [Act.put, pA, pB, pC, e7]) ⟨hY, h10, h11, V.step 8 rfl⟩
               · have e7 := V.at (zdq hd 7 rfl) rfl
                 go_wp2_with fail
                 exact hK _ (.bool TM.2) _ (by simp only [Act.put, pA, pB, pC, e7]) ⟨hY, h10, h11, V.step 9 rfl⟩
               · go_wp2_with fail
                 rw [← z64]
                 exact hK _ (.pointer (some ⟨W4.heap.size, 0, none⟩)) _ (by simp only [Act.put, pA, pB, pC ]) ⟨hY.alloc hY.size _, (fun _ => (PF.new W4 64 28 _ hY.size).af), (fun h => absurd rfl (hn 11 _ rfl h ⟨10, .data⟩ (by simp) rfl)), V.skip 10 rfl⟩
               · have e8 := V.at (zdq hd 8 rfl) rfl
                 obtain ⟨gz, b, ea, hN, hk⟩ := (h10 (zdq hd 10 rfl)).out
                 refine zsb 28 _ _ rfl b 64 (TM.1) ea e8 28 gz hk Try.size28 ?_
                 exact hK _ undef _ rfl ⟨zr hY hN _, (fun h => (h10 h).row hk), (fun _ => by rw [show updV v 11 undef 10 = v 10 from rfl, ea]; exact PF.row hk hN _), V.skip 11 rfl⟩
               · have e9 := V.at (zdq hd 9 rfl) rfl
                 go_wp2_with fail
                 exact hK _ (.bool TM.2) _ (by simp only [Act.put, pA, pB, pC, e9]) ⟨hY, h10, h11, V.step 12 rfl⟩
             · intro L v W4 hL ⟨hY, h10, h11, V⟩
               obtain ⟨k13_10, e10, hNk13_10, hk13_10⟩ := (h11 (hL 11 (by decide))).out
               have e0 := V.at (hL 0 (by decide)) rfl
               have e1 := V.at (hL 1 (by decide)) rfl
               have e2 := V.at (hL 2 (by decide)) rfl
               have e3 := V.at (hL 3 (by decide)) rfl
               have e4 := V.at (hL 4 (by decide)) rfl
               have e5 := V.at (hL 5 (by decide)) rfl
               have e6 := V.at (hL 6 (by decide)) rfl
               have e7 := V.at (hL 7 (by decide)) rfl
               have e8 := V.at (hL 8 (by decide)) rfl
               have e9 := V.at (hL 9 (by decide)) rfl
               have e12 := V.at (hL 12 (by decide)) rfl
               clear hL h10 h11 V
               replace B0 := B0.zw hY
               replace B1 := B1.zw hY
               replace hb := hb.trans (hY.mono hb.size)
               clear hY
               simp only [Exit.then, e10, e0, e1, e2, e3, e4, e5, e6, e7, e8, e9, e12]
               clear e10 e0 e1 e2 e3 e4 e5 e6 e7 e8 e9 e12
               have B2 := hk13_10
               clear hk13_10
               have zk13_10_0 : N1 < k13_10 := by omega
               have zk13_10_1 : N2 < k13_10 := by omega
               clear lt_B0 lt_B1
               go_wp2_with fail
               go_ret2
               exact ⟨_, by rw [HV.out]; rfl, by rw [HV.out, plR_nil]; exact SlL.nil _ _ hb.size, hb⟩
     · have hjI : ¬ (j : Int) < (Ua.length : Int) := by omega
       have hjE : j = Ua.length := by omega
       have HE := Lib.hid hjE
       clear hjE
       go_wp2_with fail
       go_roundw
       case rel => exact ⟨i + 1, O, by go_num, by omega, Lib.hid (by rw [HS.out, hO.out, HE.out]), Lib.hid (fun a ha => by
        by_cases e : a = i
        · subst e; rw [← HE.out]; exact hqI.out
        · exact hqO.out a (by omega)), hb, hlw, B0⟩
       case measure => simp [intOf] <;> omega
  · have hiI : ¬ (i : Int) < (Va.length : Int) := by omega
    have hiE : i = Va.length := by omega
    rw [hiE] at hqO
    exact absurd hqO.out HGD.out
set_option maxRecDepth 100000 in
set_option maxHeartbeats 1600000 in
theorem spec_ComposeActions_any (p : Int) (Va Ua : List (Nat → Nat)) (hVb : ∀ f ∈ Va, byte f) (hUb : ∀ f ∈ Ua, byte f) (hVl : (Va.length : Int) ≤ 1048576) (hUl : (Ua.length : Int) ≤ 1048576) (bV bU qV qU : Nat) (w : World) (hV : SlL w qV 28 64 (.slice (some ⟨bV, 0, none⟩) Va.length Va.length) (plR Va)) (hU : SlL w qU 28 64 (.slice (some ⟨bU, 0, none⟩) Ua.length Ua.length) (plR Ua)) :
 Calls Try.prog 45 #[.int .i64 p, .slice (some ⟨bV, 0, none⟩) Va.length Va.length, .slice (some ⟨bU, 0, none⟩) Ua.length Ua.length] w fun e w' => ∃ v, e = .returned (.tuple #[v, .int .i64 (cpV p Va Ua).2]) ∧ SlL w' w.heap.size 28 64 v (plR (cpV p Va Ua).1) ∧ Below w.heap.size w w' := by
 have HCK := Lib.hid (l04Lists_any p Va Ua hVb hUb hVl hUl _ _ _ _ qV qU w hV hU)
 obtain ⟨C, hC⟩ : ∃ C, c7 p Va Ua = C := ⟨_, rfl⟩
 rw [hC] at HCK
 clear hVb hUb
 by_cases h0 : C = 0
 · have hck := hC.trans h0
   subst h0
   clear hC
   obtain ⟨n, rfl, hpr, lV, lU, l1, l2⟩ := c7_fld hck
   have gV := zrow_all (L := Va) (by omega) lV
   have gU := zrow_all (L := Ua) (by omega) lU
   by_cases hgd : cmG n Va Ua
   · have HV := Lib.hid (cpV_0 hck hgd)
     exact composeS_ok n Va Ua bV bU qV qU w hpr gV gU l1 l2 hgd hV hU HCK.out HV.out
   · have HV := Lib.hid (cpV_3 hck hgd)
     exact composeS_no n Va Ua bV bU qV qU w hpr gV gU l1 l2 hgd hV hU HCK.out HV.out
 · have HV := Lib.hid (cpV_n (show c7 p Va Ua ≠ 0 by rw [hC]; exact h0))
   rw [hC] at HV
   have hC1 : (C != 0) = true := by simp [h0]
   clear hC hV hU
   go_enter Try.func45, Try.ntmps45
   go_wp2_with (go_at_call 79; refine HCK.out.mono ?_; rintro e wx ⟨rfl, hx⟩)
   go_ret2
   exact ⟨_, by rw [HV.out]; rfl, by rw [HV.out, plR_nil]; exact SlL.nil _ _ hx.size, hx⟩
end Go.Proofs.Ytelgefgphhebnaa
end
section
namespace Go.Proofs.Ytelgefgphhebnaa
open Go Go.RowKit
set_option linter.unusedVariables false
set_option linter.unusedSimpArgs false
/-- a list's own cells, whatever they hold -/
def OwP (w : World) (base : Nat) (v : Value) (n : Nat) : Prop := ∃ ys, w.ownsRow base 28 64 v n ys
theorem SlL.ownP {w : World} {base n : Nat} {v : Value} {cs : List (List Value)} (h : SlL w base 28 64 v cs) (hn : cs.length = n) : OwP w base v n := by
 delta SlL at h
 exact ⟨cs.flatten, hn ▸ h.2.2⟩
theorem OwP.has {w : World} {base n cap : Nat} {a : Option Addr} (h : OwP w base (.slice a n cap) n) (hn : 0 < n) : ∃ g, a = Option.some ⟨g, 0, none⟩ := by
 obtain ⟨ys, h1⟩ := h
 rcases h1.2 with ⟨h2, h3⟩ | ⟨g, c, cur, h2, _⟩
 · omega
 · injection h2 with h2; exact ⟨g, h2⟩
theorem OwP.step {w : World} {base n g cap : Nat} (h : OwP w base (.slice (some ⟨g, 0, none⟩) n cap) n) {q : Nat} {x : Value} (hq : q < n * 64) :
 (∃ u, w.cell? ⟨g, q, none⟩ = Option.some u) ∧ w.frozen? ⟨g, q, none⟩ = false ∧ OwP (w.setCell ⟨g, q, none⟩ x) base (.slice (some ⟨g, 0, none⟩) n cap) n ∧ w.grownBy (w.setCell ⟨g, q, none⟩ x) (Option.some g) := by
 obtain ⟨ys, h1⟩ := h
 have hl : q < ys.length := by rw [h1.1]; exact hq
 obtain ⟨s1, s2⟩ := h1.stored q x
 exact ⟨⟨ys[q], by rw [h1.cellAt q hq]; exact List.getElem?_eq_getElem hl⟩, h1.frozenAt q, ⟨_, s1⟩, s2⟩
theorem OwP.kept {w w' : World} {base n : Nat} {v : Value} {row : Option Nat} (h : OwP w base v n) (hg : w.grownBy w' row) (hr : v.ownBlock = Option.none ∨ v.ownBlock ≠ row) : OwP w' base v n := by
 obtain ⟨ys, h1⟩ := h
 exact ⟨ys, h1.kept hg hr⟩
attribute [local irreducible] OwP
set_option maxRecDepth 100000 in
set_option maxHeartbeats 3200000 in
theorem markPolyS_from (n : Nat) (a0 : Option Addr) (cap base : Nat) (w : World) (k0 : Nat) (hk0 : k0 ≤ 1073741824) (h : OwP w base (.slice a0 n cap) n) (hn : n ≤ 1048576) :
 Calls Try.prog 21 #[.slice a0 n cap, .int .i64 (k0 : Int)] w fun e w' => e = .returned (.int .i64 ((k0 + 64 * n : Nat) : Int)) ∧ w.grownBy w' (Value.slice a0 n cap).ownBlock := by
 go_enter Try.func21, Try.ntmps21
 go_wp2_with fail
 go_loopw [1, 5] (fun x i wr => ∃ j X : Nat, x = .int .i64 (X : Int) ∧ X = k0 + 64 * j ∧ i = .int .i64 (j : Int) ∧ j ≤ n ∧ OwP wr base (.slice a0 n cap) n ∧ w.grownBy wr (Value.slice a0 n cap).ownBlock) (fun _ i _ => n - (intOf i).toNat)
 case atStart => exact ⟨0, k0, rfl, rfl, rfl, Nat.zero_le _, h, grown_refl _ _⟩
 case round =>
  clear h; obtain ⟨j, X, rfl, hX, rfl, hjn, hM, hG⟩ := hrel
  by_cases hj : j < n
  · have hjl : (j : Int) < (n : Int) := by omega
    obtain ⟨g, rfl⟩ := hM.has (by omega)
    have hX2 : X ≤ 1140850688 := by omega
    have HX := Lib.hid hX
    clear hX
    go_wp2_with fail
    go_loopw [1, 6] (fun x i wr2 => ∃ k X : Nat, x = .int .i64 (X : Int) ∧ X = k0 + 64 * j + k ∧ i = .int .i64 (k : Int) ∧ k ≤ 64 ∧ OwP wr2 base (.slice (some ⟨g, 0, none⟩) n cap) n ∧ w.grownBy wr2 (some g)) (fun _ i _ => 64 - (intOf i).toNat)
    case atStart => exact ⟨0, X, rfl, by have := HX.out; omega, rfl, by omega, hM, hG⟩
    case round =>
     clear hM hG HX; obtain ⟨k, X, rfl, hX, rfl, hk, hM, hG⟩ := hrel
     have hX2 : X ≤ 1140850752 := by omega
     have HX := Lib.hid hX
     clear hX
     have HQ := Lib.hid (show j * 64 + k = 64 * j + k by omega)
     by_cases hlt : k < 64
     · obtain ⟨⟨u, hc⟩, hz, hM2, hG2⟩ := hM.step (q := 64 * j + k) (x := .int .u8 ((X : Int) % 256)) (by omega)
       rw [← HQ.out] at hM2 hG2
       rw [← HQ.out] at hc hz
       have HM2 := Lib.hid hM2
       have HG2 := Lib.hid (grown_trans hG hG2)
       clear hM2 hG2 hM hG
       go_wp2_with fail
       go_roundw
       case rel => exact ⟨k + 1, X + 1, by go_num, by have := HX.out; omega, by go_num, by omega, HM2.out, HG2.out⟩
       case measure => simp [intOf] <;> omega
     · have e : k = 64 := by omega
       subst e
       have HM2 := Lib.hid hM
       have HG2 := Lib.hid hG
       clear hM hG
       go_wp2_with fail
       go_roundw
       case rel => exact ⟨j + 1, X, rfl, by have := HX.out; omega, by go_num, by omega, HM2.out, HG2.out⟩
       case measure => simp [intOf] <;> omega
  · have hjl : ¬ (j : Int) < (n : Int) := by omega
    have e : j = n := by omega
    subst e
    go_wp2_with fail
    go_ret
    exact ⟨ret_int (by push_cast; rfl), hG⟩
end Go.Proofs.Ytelgefgphhebnaa
end
section
namespace Go.Proofs.Ytelgefgphhebnaa
open Go Go.RowKit
set_option linter.unusedVariables false
set_option linter.unusedSimpArgs false
set_option maxRecDepth 100000 in
set_option maxHeartbeats 3200000 in
theorem FnExactComposeActions_walkA (w : World) (p : Int) (aVa : Option Addr) (nVa cVa : Nat) (XVa : Nat → Nat → Nat) (xVa : ∀ i, byte (XVa i)) (wVa : nVa ≤ maxLen) (aUb : Option Addr) (nUb cUb : Nat) (XUb : Nat → Nat → Nat) (xUb : ∀ i, byte (XUb i)) (wUb : nUb ≤ maxLen) (lVa : Lst w aVa nVa XVa) (lUb : Lst w aUb nUb XUb) :
 Calls Try.prog 12 #[.int .i64 p, .slice aVa nVa cVa, .slice aUb nUb cUb] w fun e w' => e = .returned (.bool true) ∧ Below w.heap.size w w' := by
 go_enter Try.func12, Try.ntmps12
 go_upto_region 1 with (fail)
 have hb : Below w.heap.size w w := Below.refl _ _
 by_cases hs0 : (nVa : Int) ≤ 1048576
 · have hneg0 : ¬ (1048576 - (nVa : Int) < 0) := by omega
   go_upto_region 5 with (first | (go_at_call 14; refine (szPolyS_at aVa nVa cVa (1048576) _ wVa (by omega) (by omega)).mono ?_; rintro e wS ⟨rfl, hq⟩; have hq2 : w = wS := (by first | exact hq | exact hq.symm); clear hq; subst hq2; rw [if_pos hs0]))
   obtain ⟨lf0, hlf0⟩ : ∃ z : Int, z = 1048576 - (nVa : Int) := ⟨_, rfl⟩
   rw [← hlf0]
   have hlb0 : 0 ≤ lf0 := by omega
   have hlc0 : lf0 ≤ 1048576 := by omega
   have HLF0 := Lib.hid hlf0
   clear hlf0 hneg0
   by_cases hs1 : (nUb : Int) ≤ lf0
   · have hneg1 : ¬ (lf0 - (nUb : Int) < 0) := by omega
     go_upto_region 8 with (first | (go_at_call 14; refine (szPolyS_at aUb nUb cUb (lf0) _ wUb (by omega) (by omega)).mono ?_; rintro e wS ⟨rfl, hq⟩; have hq2 : w = wS := (by first | exact hq | exact hq.symm); clear hq; subst hq2; rw [if_pos hs1]))
     have hm0 : (nVa : Int) ≤ 1048576 := by omega
     have hm1 : (nUb : Int) ≤ 1048576 := by omega
     obtain ⟨LVa, hLVa⟩ : ∃ L : List (Nat → Nat), L = (List.range nVa).map XVa := ⟨_, rfl⟩
     have hlVa : LVa.length = nVa := by rw [hLVa]; simp
     have hbyVa : ∀ z, z ∈ LVa → byte z := fun z hz => by rw [hLVa] at hz; obtain ⟨i, _, rfl⟩ := List.mem_map.1 hz; exact xVa i
     have hlenVa : (LVa.length : Int) ≤ 1048576 := by omega
     have HTOVa := Lib.hid (fun W (hW : Below w.heap.size w W) => hLVa ▸ toPolyS_any aVa nVa cVa XVa xVa W (lVa.below hW) hm0)
     have HEQVa := Lib.hid (fun b b2 q q2 W h1 h2 => show Calls Try.prog 20 #[.slice (some ⟨b, 0, none⟩) nVa nVa, .slice (some ⟨b2, 0, none⟩) nVa nVa] W _ from hlVa ▸ eqPolyS_big LVa (some ⟨b, 0, none⟩) (some ⟨b2, 0, none⟩) LVa.length LVa.length q q2 W (hlVa ▸ h1) (hlVa ▸ h2) (by omega))
     clear hLVa
     obtain ⟨LUb, hLUb⟩ : ∃ L : List (Nat → Nat), L = (List.range nUb).map XUb := ⟨_, rfl⟩
     have hlUb : LUb.length = nUb := by rw [hLUb]; simp
     have hbyUb : ∀ z, z ∈ LUb → byte z := fun z hz => by rw [hLUb] at hz; obtain ⟨i, _, rfl⟩ := List.mem_map.1 hz; exact xUb i
     have hlenUb : (LUb.length : Int) ≤ 1048576 := by omega
     have HTOUb := Lib.hid (fun W (hW : Below w.heap.size w W) => hLUb ▸ toPolyS_any aUb nUb cUb XUb xUb W (lUb.below hW) hm1)
     have HEQUb := Lib.hid (fun b b2 q q2 W h1 h2 => show Calls Try.prog 20 #[.slice (some ⟨b, 0, none⟩) nUb nUb, .slice (some ⟨b2, 0, none⟩) nUb nUb] W _ from hlUb ▸ eqPolyS_big LUb (some ⟨b, 0, none⟩) (some ⟨b2, 0, none⟩) LUb.length LUb.length q q2 W (hlUb ▸ h1) (hlUb ▸ h2) (by omega))
     clear hLUb
     have HSP := Lib.hid (fun (W : World) (bVa : Nat) (qVa : Nat) (sVa : SlL W qVa 28 64 (.slice (some ⟨bVa, 0, none⟩) nVa nVa) (plR LVa)) (bUb : Nat) (qUb : Nat) (sUb : SlL W qUb 28 64 (.slice (some ⟨bUb, 0, none⟩) nUb nUb) (plR LUb)) => show Calls Try.prog 45 #[.int .i64 p, .slice (some ⟨bVa, 0, none⟩) nVa nVa, .slice (some ⟨bUb, 0, none⟩) nUb nUb] W _ from by
      have := spec_ComposeActions_any p LVa LUb hbyVa hbyUb hlenVa hlenUb bVa bUb qVa qUb W (hlVa ▸ sVa) (hlUb ▸ sUb)
      rw [hlVa, hlUb] at this
      exact this)
     have HIM := Lib.hid (fun (W : World) (bVa : Nat) (qVa : Nat) (sVa : SlL W qVa 28 64 (.slice (some ⟨bVa, 0, none⟩) nVa nVa) (plR LVa)) (bUb : Nat) (qUb : Nat) (sUb : SlL W qUb 28 64 (.slice (some ⟨bUb, 0, none⟩) nUb nUb) (plR LUb)) => show Calls Try.prog 46 #[.int .i64 p, .slice (some ⟨bVa, 0, none⟩) nVa nVa, .slice (some ⟨bUb, 0, none⟩) nUb nUb] W _ from by
      have := impl_ComposeActions_any p LVa LUb hbyVa hbyUb hlenVa hlenUb bVa bUb qVa qUb W (hlVa ▸ sVa) (hlUb ▸ sUb)
      rw [hlVa, hlUb] at this
      exact this)
     clear hbyVa hbyUb
     have HRL := Lib.hid (show ((cpV p LVa LUb).1).length ≤ 1048576 from Nat.le_trans (cpV_len p LVa LUb) (by decide))
     have hRL4 := cpV_len p LVa LUb
     obtain ⟨K, hK⟩ : ∃ K, K = 1 + 64 * ((cpV p LVa LUb).1).length := ⟨_, rfl⟩
     have hK1 : (K : Int) ≤ 1000000 := by omega
     have hK2 : ((K : Int) != (K : Int)) = false := by simp
     have hK3 : ¬ (K : Int) < 0 := by omega
     have HK := Lib.hid hK
     clear hK hRL4
     have hne0 : (((cpV p LVa LUb).2) != ((cpV p LVa LUb).2)) = false := by simp
     go_upto_region 9 with (first | (go_at_call 17; with_reducible refine (HTOVa.out _ hb).mono ?_; rintro e W2 ⟨bVa, rfl, hsVa, _, h2⟩; replace hb := hb.trans (h2.mono hb.size)) | (go_at_call 17; with_reducible refine (HTOUb.out _ hb).mono ?_; rintro e W2 ⟨bUb, rfl, hsUb, _, h2⟩; replace hsVa := hsVa.zw h2; replace hb := hb.trans (h2.mono hb.size)) | (go_at_call 45; refine (HSP.out _ _ _ hsVa _ _ hsUb).mono ?_; rintro e W3 ⟨v1, rfl, S1, h2⟩; replace hb := hb.trans (h2.mono hb.size)))
     clear hsVa hsUb HSP
     obtain ⟨a1, cap1, rfl⟩ := S1.form
     rw [plR_len] at S1 ⊢
     have T1 := S1.top
     obtain ⟨top1, ht1⟩ : ∃ b, b = W3.heap.size := ⟨_, rfl⟩
     rw [← ht1] at T1
     have hz1 := Nat.le_of_eq ht1
     have hw1 := hb.size
     rw [← ht1] at hw1
     clear ht1 S1
     go_upto_region 10 with (first | (go_at_call 17; with_reducible refine (HTOVa.out _ hb).mono ?_; rintro e W2 ⟨bx, rfl, hsx, hbl, h2⟩; replace T1 := T1.zw h2; replace hb := hb.trans (h2.mono hb.size)))
     have hbx := hsx.len.2.1
     have hbt : top1 ≤ bx := Nat.le_trans hz1 hbx
     have hbw : w.heap.size ≤ bx := Nat.le_trans hw1 hbt
     obtain ⟨qx, hqx⟩ : ∃ q, q = W3.heap.size := ⟨_, rfl⟩
     rw [← hqx] at hsx
     clear hqx hbx hz1 hw1
     go_upto_region 11 with (first | (go_at_call 17; with_reducible refine (HTOUb.out _ hb).mono ?_; rintro e W5 ⟨bu, rfl, hsy, hbm, h2⟩; replace T1 := T1.zw h2; replace hsx := hsx.zw h2; replace hb := hb.trans (h2.mono hb.size)))
     have hby := hsy.len.2.1
     have hxy : bx < bu := Nat.lt_of_lt_of_le hbl hby
     obtain ⟨qy, hqy⟩ : ∃ q, q = W2.heap.size := ⟨_, rfl⟩
     rw [← hqy] at hsy
     clear hqy hby hbl
     go_upto_region 12 with (first | (go_at_call 46; refine (HIM.out _ _ _ hsx _ _ hsy).mono ?_; rintro e W4 ⟨v2, rfl, S2, h2⟩; have hw2 := hb.size; replace T1 := T1.zw h2; replace hsx := hsx.zw h2; replace hsy := hsy.zw h2; replace hb := hb.trans (h2.mono hb.size)))
     obtain ⟨a2, cap2, rfl⟩ := S2.form
     rw [plR_len] at S2 ⊢
     have HAP := Lib.hid (show ∀ r, (Value.slice a1 ((cpV p LVa LUb).1).length cap1).ownBlock = some r → ∀ r2, (Value.slice a2 ((cpV p LVa LUb).1).length cap2).ownBlock = some r2 → r ≠ r2 from fun r hr r2 hr2 => by
      have e1 := T1.2 r hr
      have e2 := S2.own r2 hr2
      omega)
     have HAX := Lib.hid (show ∀ r, (Value.slice a1 ((cpV p LVa LUb).1).length cap1).ownBlock = some r → r ≠ bx from fun r hr => by
      have e1 := T1.2 r hr
      omega)
     have HAY := Lib.hid (show ∀ r, (Value.slice a2 ((cpV p LVa LUb).1).length cap2).ownBlock = some r → r ≠ bx from fun r hr => by
      have e1 := S2.own r hr
      omega)
     have HAX2 := Lib.hid (show ∀ r, (Value.slice a1 ((cpV p LVa LUb).1).length cap1).ownBlock = some r → r ≠ bu from fun r hr => by
      have e1 := T1.2 r hr
      omega)
     have HAY2 := Lib.hid (show ∀ r, (Value.slice a2 ((cpV p LVa LUb).1).length cap2).ownBlock = some r → r ≠ bu from fun r hr => by
      have e1 := S2.own r hr
      omega)
     have HAW := Lib.hid (show ∀ r, (Value.slice a2 ((cpV p LVa LUb).1).length cap2).ownBlock = some r → w.heap.size ≤ r from fun r hr => Nat.le_trans hw2 (S2.own r hr))
     have S1 := T1.1
     obtain ⟨base2, hb2⟩ : ∃ b, b = W5.heap.size := ⟨_, rfl⟩
     rw [← hb2] at S2
     have hbu : w.heap.size ≤ bu := by omega
     have hne : bx ≠ bu := by omega
     clear hb2 T1 hw2 hbm hbt hxy
     go_upto_region 14 with (first | (go_at_call 20; refine (eqPolyS_big ((cpV p LVa LUb).1) a2 a1 cap2 cap1 base2 _ _ S2 S1 HRL.out).mono ?_; rintro e W7 ⟨rfl, h2⟩; replace S1 := S1.zw h2; replace S2 := S2.zw h2; replace hsx := hsx.zw h2; replace hsy := hsy.zw h2; replace hb := hb.trans (h2.mono hb.size)))
     go_upto_region 16 with (first | (go_at_call 17; with_reducible refine (HTOVa.out _ hb).mono ?_; rintro e W2 ⟨yx, rfl, zx, _, h2⟩; replace S1 := S1.zw h2; replace S2 := S2.zw h2; replace hsx := hsx.zw h2; replace hsy := hsy.zw h2; replace hb := hb.trans (h2.mono hb.size)) | (go_at_call 20; refine (HEQVa.out _ _ _ _ _ hsx zx).mono ?_; rintro e W6 ⟨rfl, h2⟩; replace S1 := S1.zw h2; replace S2 := S2.zw h2; replace hsx := hsx.zw h2; replace hsy := hsy.zw h2; replace hb := hb.trans (h2.mono hb.size)))
     go_upto_region 18 with (first | (go_at_call 17; with_reducible refine (HTOUb.out _ hb).mono ?_; rintro e W2 ⟨yx, rfl, zy, _, h2⟩; replace S1 := S1.zw h2; replace S2 := S2.zw h2; replace hsx := hsx.zw h2; replace hsy := hsy.zw h2; replace hb := hb.trans (h2.mono hb.size)) | (go_at_call 20; refine (HEQUb.out _ _ _ _ _ hsy zy).mono ?_; rintro e W6 ⟨rfl, h2⟩; replace S1 := S1.zw h2; replace S2 := S2.zw h2; replace hsx := hsx.zw h2; replace hsy := hsy.zw h2; replace hb := hb.trans (h2.mono hb.size)))
     clear zx zy
     have hMX := hsx.marksP (show (plR LVa).length = nVa by rw [plR_len]; exact hlVa)
     obtain ⟨KX, hKX⟩ : ∃ K, K = 1 + 64 * nVa := ⟨_, rfl⟩
     have hKX1 : KX ≤ 67108865 := by omega
     have HKX := Lib.hid hKX
     obtain ⟨KY, hKY⟩ : ∃ K, K = KX + 64 * nUb := ⟨_, rfl⟩
     have hKY3 : ¬ (KY : Int) < 0 := by omega
     have HKY := Lib.hid hKY
     clear hsx hKX hKY
     go_upto_region 20 with (first | (go_at_call 21; refine (markPolyS_big nVa (some ⟨bx, 0, none⟩) nVa qx _ hMX (by omega)).mono ?_; rintro e W8 ⟨rfl, hMX2, hG⟩; rw [← HKX.out]))
     replace hb := hb.grown hG hb.size (fun k e => by cases e; exact hbw)
     replace S1 := slL_apart S1 hG (by
      cases hv : (Value.slice a1 ((cpV p LVa LUb).1).length cap1).ownBlock with
      | none => exact .inl rfl
      | some r =>
       refine .inr fun h => ?_
       exact HAX.out r hv (by injection h))
     replace S2 := slL_apart S2 hG (by
      cases hv : (Value.slice a2 ((cpV p LVa LUb).1).length cap2).ownBlock with
      | none => exact .inl rfl
      | some r =>
       refine .inr fun h => ?_
       exact HAY.out r hv (by injection h))
     replace hsy := slL_apart hsy hG (.inr fun h => hne (by injection h with h; exact h.symm))
     clear hMX hMX2 hG
     have hMY := hsy.ownP (show (plR LUb).length = nUb by rw [plR_len]; exact hlUb)
     clear hsy
     go_upto_region 21 with (first | (go_at_call 21; refine (markPolyS_from nUb (some ⟨bu, 0, none⟩) nUb qy _ KX (by omega) hMY (by omega)).mono ?_; rintro e W9 ⟨rfl, hG⟩; rw [← HKY.out]))
     replace hb := hb.grown hG hb.size (fun k e => by cases e; exact hbu)
     replace S1 := slL_apart S1 hG (by
      cases hv : (Value.slice a1 ((cpV p LVa LUb).1).length cap1).ownBlock with
      | none => exact .inl rfl
      | some r =>
       refine .inr fun h => ?_
       exact HAX2.out r hv (by injection h))
     replace S2 := slL_apart S2 hG (by
      cases hv : (Value.slice a2 ((cpV p LVa LUb).1).length cap2).ownBlock with
      | none => exact .inl rfl
      | some r =>
       refine .inr fun h => ?_
       exact HAY2.out r hv (by injection h))
     clear hMY hG hbu hbw
     go_upto_region 23 with (first | (go_at_call 20; refine (eqPolyS_big ((cpV p LVa LUb).1) a2 a1 cap2 cap1 base2 _ _ S2 S1 HRL.out).mono ?_; rintro e W7 ⟨rfl, h2⟩; replace S1 := S1.zw h2; replace S2 := S2.zw h2; replace hb := hb.trans (h2.mono hb.size)))
     go_upto_region 25 with (first | (go_at_call 21; refine (markPolyS_big ((cpV p LVa LUb).1).length a2 cap2 base2 _ (S2.marksP (plR_len _)) HRL.out).mono ?_; rintro e W6 ⟨rfl, M2, hG⟩; rw [← HK.out]))
     replace hb := hb.grown hG hb.size (fun k e => HAW.out k e)
     replace S1 := slL_apart S1 hG (by
      cases hv : (Value.slice a1 ((cpV p LVa LUb).1).length cap1).ownBlock with
      | none => exact .inl rfl
      | some r =>
       refine .inr fun h => ?_
       exact HAP.out r hv r h.symm rfl)
     clear S2 hG
     go_upto_region 31 with (first | (go_at_call 26; refine (heldPolyS_big ((cpV p LVa LUb).1).length a2 cap2 base2 _ M2 HRL.out).mono ?_; rintro e wS ⟨rfl, rfl⟩; rw [← HK.out]))
     go_upto_region 32 with (first | (go_at_call 17; with_reducible refine (HTOVa.out _ hb).mono ?_; rintro e W2 ⟨bz, rfl, hsz, _, h2⟩; replace S1 := S1.zw h2; replace M2 := M2.below h2; replace hb := hb.trans (h2.mono hb.size)) | (go_at_call 17; with_reducible refine (HTOUb.out _ hb).mono ?_; rintro e W2 ⟨bo, rfl, hso, _, h2⟩; replace S1 := S1.zw h2; replace hsz := hsz.zw h2; replace M2 := M2.below h2; replace hb := hb.trans (h2.mono hb.size)) | (go_at_call 46; refine (HIM.out _ _ _ hsz _ _ hso).mono ?_; rintro e W4 ⟨v3, rfl, S3, h2⟩; replace S1 := S1.zw h2; replace M2 := M2.below h2; replace hb := hb.trans (h2.mono hb.size)))
     clear hsz hso
     obtain ⟨a3, cap3, rfl⟩ := S3.form
     rw [plR_len] at S3 ⊢
     go_upto_region 35 with (first | (go_at_call 20; refine (eqPolyS_big ((cpV p LVa LUb).1) a3 a1 cap3 cap1 _ _ _ S3 S1 HRL.out).mono ?_; rintro e W9 ⟨rfl, h2⟩; replace M2 := M2.below h2; replace hb := hb.trans (h2.mono hb.size)))
     clear S3 S1
     go_wp2_with (first | (go_at_call 26; refine (heldPolyS_big ((cpV p LVa LUb).1).length a2 cap2 base2 _ M2 HRL.out).mono ?_; rintro e wS ⟨rfl, rfl⟩; rw [← HK.out]))
     go_ret
     exact ⟨rfl, hb⟩
   · go_wp2_with (first | (go_at_call 14; refine (szPolyS_at aUb nUb cUb (lf0) _ wUb (by omega) (by omega)).mono ?_; rintro e wS ⟨rfl, hq⟩; have hq2 : w = wS := (by first | exact hq | exact hq.symm); clear hq; subst hq2; rw [if_neg hs1]))
     go_ret
     exact ⟨rfl, hb⟩
 · go_wp2_with (first | (go_at_call 14; refine (szPolyS_at aVa nVa cVa (1048576) _ wVa (by omega) (by omega)).mono ?_; rintro e wS ⟨rfl, hq⟩; have hq2 : w = wS := (by first | exact hq | exact hq.symm); clear hq; subst hq2; rw [if_neg hs0]))
   go_ret
   exact ⟨rfl, hb⟩
theorem FnExactComposeActions_walk {w : World} (p : Int) (aVa : Option Addr) (nVa cVa : Nat) (XVa : Nat → Nat → Nat) (xVa : ∀ i, byte (XVa i)) (wVa : nVa ≤ maxLen) (lVa : Lst w aVa nVa XVa) (aUb : Option Addr) (nUb cUb : Nat) (XUb : Nat → Nat → Nat) (xUb : ∀ i, byte (XUb i)) (wUb : nUb ≤ maxLen) (lUb : Lst w aUb nUb XUb) (w' : World) (hw : w' = w) :
 Calls Try.prog 12 #[.int .i64 p, .slice aVa nVa cVa, .slice aUb nUb cUb] w fun e w' => e = .returned (.bool true) ∧ Below w.heap.size w w' :=
 FnExactComposeActions_walkA w p aVa nVa cVa XVa xVa wVa aUb nUb cUb XUb xUb wUb lVa lUb
end Go.Proofs.Ytelgefgphhebnaa
end
section
namespace Go.Proofs.Ytelgefgphhebnaa
open Go
def cutW : List Char := [Char.ofNat 99, Char.ofNat 117, Char.ofNat 116]
theorem strip_cut (rest : List (List Char)) : stripLifts liftWords (cutW :: rest) = ([], cutW :: rest) := by
 have key : ∀ os : List String, (os.all fun o => !(cutW == o.toList)) = true → stripLifts os (cutW :: rest) = ([], cutW :: rest) := by
  intro os
  induction os with
  | nil => intro _; rfl
  | cons o os ih =>
   intro h
   simp only [List.all_cons, Bool.and_eq_true, Bool.not_eq_true'] at h
   unfold stripLifts
   rw [h.1]
   exact ih h.2
 exact key _ (by decide +kernel)
theorem make_cut {P : Program} {rest : List (List Char)} (h : behindMainWord (wordsSigns P.initOrder.toList) = cutW :: rest) : P.make = some .cut := by
 unfold Program.make
 rw [h]
 have e1 : (cutW == "gc".toList || cutW == "spec".toList) = false := by decide +kernel
 have e2 : (cutW == "cut".toList) = true := by decide +kernel
 simp only [e1, e2, Bool.true_or]
 rfl
theorem mayEnter_cut {P : Program} {rest : List (List Char)} (h : behindMainWord (wordsSigns P.initOrder.toList) = cutW :: rest) (h1 : P.laysLater = false) (h2 : P.bearsReflect = false) (h3 : P.doorFits [] = true) : P.mayEnter = true := by
 unfold Program.mayEnter
 rw [h]
 have e2 : (some cutW == some "cut".toList) = true := by decide +kernel
 simp only [strip_cut, h1, h2, h3, List.head?_cons, e2]
 simp
theorem lifts_cut {P : Program} {rest : List (List Char)} (h : behindMainWord (wordsSigns P.initOrder.toList) = cutW :: rest) : P.liftsFinal = false := by
 unfold Program.liftsFinal Program.headLifts
 rw [h]
 have e2 : (some cutW == some "cut".toList) = true := by decide +kernel
 have e3 : (some cutW == some "carried".toList) = false := by decide +kernel
 simp only [strip_cut, List.head?_cons, e2, e3]
 simp
/-- the signs of the head, and its words behind the first three -/
def initRest : List (List Nat) := [[97, 116], [108, 111, 111, 112, 46, 101, 120, 97, 109, 112, 108, 101, 47, 103, 48, 49, 50, 52, 53, 47, 108, 97, 119, 115, 46, 70, 110, 69, 120, 97, 99, 116, 77, 111, 111, 114, 101, 77, 97, 116, 114, 105, 120], [108, 111, 111, 112, 46, 101, 120, 97, 109, 112, 108, 101, 47, 103, 48, 49, 50, 52, 53, 47, 108, 97, 119, 115, 46, 70, 110, 69, 120, 97, 99, 116, 83, 112, 97, 110, 79, 102], [108, 111, 111, 112, 46, 101, 120, 97, 109, 112, 108, 101, 47, 103, 48, 49, 50, 52, 53, 47, 108, 97, 119, 115, 46, 70, 110, 69, 120, 97, 99, 116, 82, 97, 110, 107, 79, 102, 87, 111, 114, 100], [108, 111, 111, 112, 46, 101, 120, 97, 109, 112, 108, 101, 47, 103, 48, 49, 50, 52, 53, 47, 108, 97, 119, 115, 46, 70, 110, 69, 120, 97, 99, 116, 82, 97, 110, 107, 68, 105, 115, 116, 97, 110, 99, 101], [108, 111, 111, 112, 46, 101, 120, 97, 109, 112, 108, 101, 47, 103, 48, 49, 50, 52, 53, 47, 108, 97, 119, 115, 46, 70, 110, 69, 120, 97, 99, 116, 76, 101, 97, 115, 116, 82, 97, 110, 107], [108, 111, 111, 112, 46, 101, 120, 97, 109, 112, 108, 101, 47, 103, 48, 49, 50, 52, 53, 47, 108, 97, 119, 115, 46, 70, 110, 69, 120, 97, 99, 116, 76, 101, 97, 115, 116, 83, 107, 101, 119], [108, 111, 111, 112, 46, 101, 120, 97, 109, 112, 108, 101, 47, 103, 48, 49, 50, 52, 53, 47, 108, 97, 119, 115, 46, 70, 110, 69, 120, 97, 99, 116, 77, 111, 111, 114, 101, 68, 101, 116, 101, 114, 109, 105, 110, 97, 110, 116], [108, 111, 111, 112, 46, 101, 120, 97, 109, 112, 108, 101, 47, 103, 48, 49, 50, 52, 53, 47, 108, 97, 119, 115, 46, 70, 110, 69, 120, 97, 99, 116, 83, 113, 117, 97, 114, 101, 79, 102, 83, 107, 101, 119], [108, 111, 111, 112, 46, 101, 120, 97, 109, 112, 108, 101, 47, 103, 48, 49, 50, 52, 53, 47, 108, 97, 119, 115, 46, 70, 110, 69, 120, 97, 99, 116, 65, 100, 100, 65, 99, 116, 105, 111, 110, 115], [108, 111, 111, 112, 46, 101, 120, 97, 109, 112, 108, 101, 47, 103, 48, 49, 50, 52, 53, 47, 108, 97, 119, 115, 46, 70, 110, 69, 120, 97, 99, 116, 67, 111, 109, 112, 111, 115, 101, 65, 99, 116, 105, 111, 110, 115], [108, 111, 111, 112, 46, 101, 120, 97, 109, 112, 108, 101, 47, 103, 48, 49, 50, 52, 53, 47, 108, 97, 119, 115, 46, 70, 110, 69, 120, 97, 99, 116, 75, 101, 114, 110, 101, 108, 79, 102, 83, 107, 101, 119]]
def initSigns : List Nat := [104, 97, 114, 110, 101, 115, 115, 32, 98, 57, 48, 99, 57, 51, 56, 49, 99, 102, 101, 100, 48, 56, 52, 98, 97, 48, 49, 54, 98, 53, 101, 53, 56, 98, 52, 101, 97, 101, 51, 97, 48, 55, 98, 56, 50, 57, 57, 51, 98, 99, 101, 101, 55, 52, 50, 52, 48, 98, 102, 102, 99, 51, 50, 55, 52, 50, 52, 54, 51, 101, 51, 101, 32, 99, 117, 116] ++ initRest.flatMap fun x => 32 :: x
theorem init_split : behindMainWord (wordsSigns (initSigns.map Char.ofNat)) = cutW :: initRest.map (fun w => w.map Char.ofNat) := by kernel_rfl
theorem init_order : Try.prog.initOrder = String.ofList (initSigns.map Char.ofNat) := by kernel_rfl
theorem init_cut : behindMainWord (wordsSigns Try.prog.initOrder.toList) = cutW :: initRest.map (fun w => w.map Char.ofNat) :=
 (congrArg (fun s : String => behindMainWord (wordsSigns s.toList)) init_order).trans ((congrArg (fun l => behindMainWord (wordsSigns l)) String.toList_ofList).trans init_split)
theorem Try.laysLater : Try.prog.laysLater = false := by kernel_rfl
theorem Try.bearsReflect : Try.prog.bearsReflect = false := by kernel_rfl
theorem Try.doorFits : Try.prog.doorFits [] = true := by kernel_rfl
theorem Try.mayEnter : Try.pinned.checked.prog.mayEnter = true := mayEnter_cut init_cut Try.laysLater Try.bearsReflect Try.doorFits
theorem Try.liftsFinal : Try.pinned.checked.prog.liftsFinal = false := lifts_cut init_cut
theorem Try.make : Try.pinned.checked.prog.make = some .cut := make_cut init_cut
end Go.Proofs.Ytelgefgphhebnaa
end
