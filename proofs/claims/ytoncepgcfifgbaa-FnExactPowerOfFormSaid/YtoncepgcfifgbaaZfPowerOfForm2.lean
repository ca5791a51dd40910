/-
  What the rows of this claim rest on: arrays of bytes, walks of the functions, plain mathematics.
-/
import Derived.Test.YtoncepgcfifgbaaZfPowerOfForm1
import Derived.Laws.StructEq
import Derived.ScopeJumps
import Derived.Laws.Tables
import Derived.Deep.CutBlock
import Derived.OwnWalk
import Derived.Deep.MidRow
import Derived.Great.BuildSlice
import Derived.RangeFuncNested
import Derived.RangeFuncBound
import Derived.RangeFuncCalls
import Derived.RangeFuncLeaves
import Derived.Shelf.Abstract
import Derived.Shelf.RegionOpen
import Derived.OwnWalkIn
import Derived.TacticsInMore
import Derived.LoopNIn
import Derived.LoopIn
section
namespace Go.Proofs.Ytoncepgcfifgbaa
open Go Go.RowKit
set_option linter.unusedVariables false
set_option linter.unusedSimpArgs false
attribute [local irreducible] deg invN quoP resP prd bzD bzU bzW sqP ngP mkP rdA rdB rdQ rdR rsQ addK
set_option maxRecDepth 100000 in
set_option maxHeartbeats 3200000 in
theorem l07Product_any (p : Nat) (a b c : Nat → Nat) (w : World) (p2 : 2 ≤ p) (p7 : p ≤ 7) (la : ∀ k, k < 64 → a k < p) (lb : ∀ k, k < 64 → b k < p) (lc : ∀ k, k < 64 → c k < p) (d1 : deg a + deg b ≤ 63) (d2 : deg (prd p a b) + deg c ≤ 63) :
 Calls Try.prog 172 #[.int .i64 (p : Int), .agg (zb 64 a), .agg (zb 64 b), .agg (zb 64 c)] w fun e w' => e = .returned (.agg (zb 64 (prd p (prd p a b) c))) ∧ Below w.heap.size w w' := by
 have H1 := Lib.hid (show ∀ W, Calls Try.prog 91 #[.int .i64 (p : Int), .agg (zb 64 a), .agg (zb 64 b)] W fun e w' => e = .returned (.tuple #[.agg (zb 64 (prd p a b)), .bool true]) ∧ Below W.heap.size W w' from fun W => by
  have := l01Times_any p a b W p2 p7 la lb
  rw [show tmV p a b = (prd p a b, true) from if_pos d1] at this; exact this)
 have H2 := Lib.hid (show ∀ W, Calls Try.prog 91 #[.int .i64 (p : Int), .agg (zb 64 (prd p a b)), .agg (zb 64 c)] W fun e w' => e = .returned (.tuple #[.agg (zb 64 (prd p (prd p a b) c)), .bool true]) ∧ Below W.heap.size W w' from fun W => by
  have := l01Times_any p (prd p a b) c W p2 p7 (fun i _ => prd_lt (by omega) i) lc
  rw [show tmV p (prd p a b) c = (prd p (prd p a b) c, true) from if_pos d2] at this; exact this)
 clear d1 d2
 go_enter Try.func172, Try.ntmps172
 go_upto_region 1 with (fail)
 rw [← z64]
 obtain ⟨W1, hwo⟩ : ∃ v : World, v = ((((w.alloc (.cells (zb 64 (a)) 23)).alloc (.cells (zb 64 (b)) 23)).alloc (.cells (zb 64 (c)) 23)).alloc (.cells (zb 64 (fun _ => 0)) 23)) := ⟨_, rfl⟩
 have B0 : Blk W1 (w.heap.size) 64 23 (a) := by subst hwo; have := ((((Blk.new w 64 23 (a)).alloc (.cells (zb 64 (b)) 23)).alloc (.cells (zb 64 (c)) 23)).alloc (.cells (zb 64 (fun _ => 0)) 23)); simpa using this
 have B1 : Blk W1 (w.heap.size + 1) 64 23 (b) := by subst hwo; have := (((Blk.new (w.alloc (.cells (zb 64 (a)) 23)) 64 23 (b)).alloc (.cells (zb 64 (c)) 23)).alloc (.cells (zb 64 (fun _ => 0)) 23)); simpa using this
 have B2 : Blk W1 (w.heap.size + 1 + 1) 64 23 (c) := by subst hwo; have := ((Blk.new ((w.alloc (.cells (zb 64 (a)) 23)).alloc (.cells (zb 64 (b)) 23)) 64 23 (c)).alloc (.cells (zb 64 (fun _ => 0)) 23)); simpa using this
 have B3 : Blk W1 (w.heap.size + 1 + 1 + 1) 64 23 (fun _ => 0) := by subst hwo; have := (Blk.new (((w.alloc (.cells (zb 64 (a)) 23)).alloc (.cells (zb 64 (b)) 23)).alloc (.cells (zb 64 (c)) 23)) 64 23 (fun _ => 0)); simpa using this
 have hb : Below w.heap.size w W1 := by subst hwo; exact (((((Below.refl _ _).alloc (Nat.le_refl _) _).alloc (by simp) _).alloc (by simp; omega) _).alloc (by simp; omega) _)
 rw [← hwo]
 clear hwo
 have lt_B0 := B0.lt
 have lt_B1 := B1.lt
 have lt_B2 := B2.lt
 have lt_B3 := B3.lt
 go_upto_region 2 with (first | rw [← z64] | (refine zla (.tmp 5) B0 Try.underlying23 Try.size23 ?_) | (refine zla (.tmp 6) B1 Try.underlying23 Try.size23 ?_) | (go_at_call 91; refine (H1.out _).mono ?_; rintro e W2 ⟨rfl, hW2⟩; replace B0 := B0.zw hW2; replace B1 := B1.zw hW2; replace B2 := B2.zw hW2; replace B3 := B3.zw hW2; replace hb := (hb).trans (hW2.mono (hb).size)) | (refine wpList_store_blk rfl 23 (.tmp 9) (.tmp 18) rfl _ 64 (prd p a b) rfl rfl 23 _ ((Blk.new W2 64 23 (fun _ => 0))) Try.size23 ?_; try simp only [Act.put]; go_upto_region 2 with (fail)))
 have lt_B0 := B0.lt
 have lt_B1 := B1.lt
 have lt_B2 := B2.lt
 have lt_B3 := B3.lt
 have lhb := hb.size
 obtain ⟨W3, hwo, hzQ⟩ : ∃ v : World, v = ((W2.alloc (.cells (zb 64 (fun _ => 0)) 23)).setRow (W2.heap.size) (zb 64 (prd p a b))) ∧ Blk v (w.heap.size) 64 23 (a) ∧ Blk v (w.heap.size + 1) 64 23 (b) ∧ Blk v (w.heap.size + 1 + 1) 64 23 (c) ∧ Blk v (w.heap.size + 1 + 1 + 1) 64 23 (fun _ => 0) ∧ Blk v (W2.heap.size) 64 23 (prd p a b) ∧ Below w.heap.size w v := ⟨_, rfl, ((B0.alloc (.cells (zb 64 (fun _ => 0)) 23)).rowOther (by omega)), ((B1.alloc (.cells (zb 64 (fun _ => 0)) 23)).rowOther (by omega)), ((B2.alloc (.cells (zb 64 (fun _ => 0)) 23)).rowOther (by omega)), ((B3.alloc (.cells (zb 64 (fun _ => 0)) 23)).rowOther (by omega)), ((Blk.new W2 64 23 (fun _ => 0)).row (prd p a b)), (zr (hb.alloc (by have := hb.size; simp; omega) (.cells (zb 64 (fun _ => 0)) 23)) (by omega) _)⟩
 rw [← hwo]
 clear hwo B0 B1 B2 B3 hb
 obtain ⟨B0, B1, B2, B3, B4, hb⟩ := hzQ
 obtain ⟨N1, hNN⟩ : ∃ n : Nat, n = W2.heap.size := ⟨_, rfl⟩
 rw [← hNN] at lt_B0 lt_B1 lt_B2 lt_B3 lhb B4 ⊢
 clear hNN
 have zN1_0 := lt_B0
 have zN1_1 := lt_B1
 have zN1_2 := lt_B2
 have zN1_3 := lt_B3
 have zN1 := lhb
 clear lt_B0 lt_B1 lt_B2 lt_B3 lhb
 try simp only [Act.put, pA, pB, pC]
 have lt_B0 := B0.lt
 have lt_B1 := B1.lt
 have lt_B2 := B2.lt
 have lt_B3 := B3.lt
 have lt_B4 := B4.lt
 go_upto_region 3 with (first | rw [← z64] | (refine zla (.tmp 9) B4 Try.underlying23 Try.size23 ?_) | (refine zla (.tmp 7) B2 Try.underlying23 Try.size23 ?_) | (go_at_call 91; refine (H2.out _).mono ?_; rintro e W4 ⟨rfl, hW4⟩; replace B0 := B0.zw hW4; replace B1 := B1.zw hW4; replace B2 := B2.zw hW4; replace B3 := B3.zw hW4; replace B4 := B4.zw hW4; replace hb := (hb).trans (hW4.mono (hb).size)) | (refine wpList_store_blk rfl 23 (.tmp 11) (.tmp 25) rfl _ 64 (prd p (prd p a b) c) rfl rfl 23 _ ((Blk.new W4 64 23 (fun _ => 0))) Try.size23 ?_; try simp only [Act.put]; go_upto_region 3 with (fail)))
 have lt_B0 := B0.lt
 have lt_B1 := B1.lt
 have lt_B2 := B2.lt
 have lt_B3 := B3.lt
 have lt_B4 := B4.lt
 have lhb := hb.size
 obtain ⟨W5, hwo, hzQ⟩ : ∃ v : World, v = ((W4.alloc (.cells (zb 64 (fun _ => 0)) 23)).setRow (W4.heap.size) (zb 64 (prd p (prd p a b) c))) ∧ Blk v (w.heap.size) 64 23 (a) ∧ Blk v (w.heap.size + 1) 64 23 (b) ∧ Blk v (w.heap.size + 1 + 1) 64 23 (c) ∧ Blk v (w.heap.size + 1 + 1 + 1) 64 23 (fun _ => 0) ∧ Blk v (N1) 64 23 (prd p a b) ∧ Blk v (W4.heap.size) 64 23 (prd p (prd p a b) c) ∧ Below w.heap.size w v := ⟨_, rfl, ((B0.alloc (.cells (zb 64 (fun _ => 0)) 23)).rowOther (by omega)), ((B1.alloc (.cells (zb 64 (fun _ => 0)) 23)).rowOther (by omega)), ((B2.alloc (.cells (zb 64 (fun _ => 0)) 23)).rowOther (by omega)), ((B3.alloc (.cells (zb 64 (fun _ => 0)) 23)).rowOther (by omega)), ((B4.alloc (.cells (zb 64 (fun _ => 0)) 23)).rowOther (by omega)), ((Blk.new W4 64 23 (fun _ => 0)).row (prd p (prd p a b) c)), (zr (hb.alloc (by have := hb.size; simp; omega) (.cells (zb 64 (fun _ => 0)) 23)) (by omega) _)⟩
 rw [← hwo]
 clear hwo B0 B1 B2 B3 B4 hb
 obtain ⟨B0, B1, B2, B3, B4, B5, hb⟩ := hzQ
 obtain ⟨N2, hNN⟩ : ∃ n : Nat, n = W4.heap.size := ⟨_, rfl⟩
 rw [← hNN] at lt_B0 lt_B1 lt_B2 lt_B3 lt_B4 lhb B5 ⊢
 clear hNN
 have zN2_0 := lt_B0
 have zN2_1 := lt_B1
 have zN2_2 := lt_B2
 have zN2_3 := lt_B3
 have zN2_4 := lt_B4
 have zN2 := lhb
 clear lt_B0 lt_B1 lt_B2 lt_B3 lt_B4 lhb
 try simp only [Act.put, pA, pB, pC]
 have lt_B0 := B0.lt
 have lt_B1 := B1.lt
 have lt_B2 := B2.lt
 have lt_B3 := B3.lt
 have lt_B4 := B4.lt
 have lt_B5 := B5.lt
 go_wp2_with (first | rw [← z64] | (refine zla (.tmp 11) B5 Try.underlying23 Try.size23 ?_) | (refine zsr (.tmp 8) (.tmp 27) (prd p (prd p a b) c) B3 Try.size23 ?_; try simp only [Act.put]))
 obtain ⟨W6, hwo, hzQ⟩ : ∃ v : World, v = (W5.setRow (w.heap.size + 1 + 1 + 1) (zb 64 (prd p (prd p a b) c))) ∧ Blk v (w.heap.size) 64 23 (a) ∧ Blk v (w.heap.size + 1) 64 23 (b) ∧ Blk v (w.heap.size + 1 + 1) 64 23 (c) ∧ Blk v (w.heap.size + 1 + 1 + 1) 64 23 (prd p (prd p a b) c) ∧ Blk v (N1) 64 23 (prd p a b) ∧ Blk v (N2) 64 23 (prd p (prd p a b) c) ∧ Below w.heap.size w v := ⟨_, rfl, (B0.rowOther (by omega)), (B1.rowOther (by omega)), (B2.rowOther (by omega)), (B3.row (prd p (prd p a b) c)), (B4.rowOther (by omega)), (B5.rowOther (by omega)), (zr hb (by omega) _)⟩
 rw [← hwo]
 clear hwo B0 B1 B2 B3 B4 B5 hb
 obtain ⟨B0, B1, B2, B3, B4, B5, hb⟩ := hzQ
 try simp only [Act.put, pA, pB, pC]
 refine bodyPost_ret (zrb rfl _ _ _ 64 23 5 _ rfl B3 Try.underlying23 Try.size23) rfl ⟨rfl, hb⟩
set_option maxRecDepth 100000 in
set_option maxHeartbeats 3200000 in
theorem composed_any (p g : Nat) (D X1 Y1 X2 Y2 : Nat → Nat) (w : World) (hpr : p = 2 ∨ p = 3 ∨ p = 5 ∨ p = 7) (lD : ∀ k, k < 64 → D k < p) (hD : deg D = ((2 * g + 1 : Nat) : Int)) (hg : g ≤ 2) (f1 : fmR p D X1 Y1 g) (f2 : fmR p D X2 Y2 g) :
 Calls Try.prog 135 #[.agg (fdC (p : Int) D).toArray, .agg (frC X1 Y1).toArray, .agg (frC X2 Y2).toArray] w fun e w' => e = .returned (.agg (frC (cpF p D g X1 Y1 X2 Y2).1 (cpF p D g X1 Y1 X2 Y2).2).toArray) ∧ Below w.heap.size w w' := by
 have p0 : 0 < p := by omega
 have p2 : 2 ≤ p := by omega
 have p7 : p ≤ 7 := by omega
 obtain ⟨a1, a2, a3, a4, a5, a6, a7, a8, ⟨ng, a9, a10⟩, a11, a12, a13, ⟨ne, a14, a15⟩, a16, a17, a18, a19⟩ := cp_deg hpr lD hD hg f1 f2
 obtain ⟨lrR, lrS, leV, leD, lgD⟩ := cp_lt hpr lD hD hg f1 f2
 have hok := cp_ok hpr lD hD hg f1 f2
 have hsm := cp_same hpr lD hD hg f1 f2
 obtain ⟨⟨lX1, lY1, _, _, _⟩, _⟩ := f1
 obtain ⟨⟨lX2, lY2, _, _, _⟩, _⟩ := f2
 have d1 : deg (prd p (cpR p X1 Y1 X2 Y2) X1) ≤ ((4 + 2 : Nat) : Int) := prd_le p0 (by omega) (by omega)
 have d2 : deg (prd p (cpS p X1 Y1 X2 Y2) X2) ≤ ((4 + 2 : Nat) : Int) := prd_le p0 (by omega) (by omega)
 obtain ⟨gD, hgD⟩ : ∃ gD, gD = bzD p X1 X2 := ⟨_, rfl⟩
 obtain ⟨gU, hgU⟩ : ∃ gU, gU = bzU p X1 X2 := ⟨_, rfl⟩
 obtain ⟨gV, hgV⟩ : ∃ gV, gV = bzW p X1 X2 := ⟨_, rfl⟩
 obtain ⟨sS, hsS⟩ : ∃ sS, sS = addK p Y1 Y2 1 := ⟨_, rfl⟩
 obtain ⟨eD, heD⟩ : ∃ eD, eD = bzD p gD sS := ⟨_, rfl⟩
 obtain ⟨eU, heU⟩ : ∃ eU, eU = bzU p gD sS := ⟨_, rfl⟩
 obtain ⟨eV, heV⟩ : ∃ eV, eV = bzW p gD sS := ⟨_, rfl⟩
 obtain ⟨rR, hrR⟩ : ∃ rR, rR = prd p eU gU := ⟨_, rfl⟩
 obtain ⟨rS, hrS⟩ : ∃ rS, rS = prd p eU gV := ⟨_, rfl⟩
 obtain ⟨ma, hma⟩ : ∃ ma, ma = prd p X1 Y2 := ⟨_, rfl⟩
 obtain ⟨na, hna⟩ : ∃ na, na = prd p rR ma := ⟨_, rfl⟩
 obtain ⟨mb, hmb⟩ : ∃ mb, mb = prd p X2 Y1 := ⟨_, rfl⟩
 obtain ⟨nb, hnb⟩ : ∃ nb, nb = prd p rS mb := ⟨_, rfl⟩
 obtain ⟨ka, hka⟩ : ∃ ka, ka = addK p na nb 1 := ⟨_, rfl⟩
 obtain ⟨mc, hmc⟩ : ∃ mc, mc = prd p Y1 Y2 := ⟨_, rfl⟩
 obtain ⟨md, hmd⟩ : ∃ md, md = addK p mc D 1 := ⟨_, rfl⟩
 obtain ⟨nc, hnc⟩ : ∃ nc, nc = prd p eV md := ⟨_, rfl⟩
 obtain ⟨kb, hkb⟩ : ∃ kb, kb = addK p ka nc 1 := ⟨_, rfl⟩
 obtain ⟨oa, hoa⟩ : ∃ oa, oa = prd p (prd p rR X1) Y2 := ⟨_, rfl⟩
 obtain ⟨ob, hob⟩ : ∃ ob, ob = prd p (prd p rS X2) Y1 := ⟨_, rfl⟩
 obtain ⟨oc, hoc⟩ : ∃ oc, oc = addK p oa ob 1 := ⟨_, rfl⟩
 obtain ⟨od, hod⟩ : ∃ od, od = addK p oc nc 1 := ⟨_, rfl⟩
 obtain ⟨Qq, hQq⟩ : ∃ Qq, Qq = quoP p kb eD := ⟨_, rfl⟩
 obtain ⟨Aa, hAa⟩ : ∃ Aa, Aa = prd p X1 X2 := ⟨_, rfl⟩
 obtain ⟨Ee, hEe⟩ : ∃ Ee, Ee = prd p eD eD := ⟨_, rfl⟩
 obtain ⟨Ac, hAc⟩ : ∃ Ac, Ac = quoP p Aa Ee := ⟨_, rfl⟩
 obtain ⟨Rc, hRc⟩ : ∃ Rc, Rc = resP p Qq Ac := ⟨_, rfl⟩
 have eR : cpR p X1 Y1 X2 Y2 = rR := by rw [hrR, heU, hgU, hgD, hsS]; rfl
 have eS : cpS p X1 Y1 X2 Y2 = rS := by rw [hrS, heU, hgV, hgD, hsS]; rfl
 have eT : cpT p X1 Y1 X2 Y2 = eV := by rw [heV, hgD, hsS]; rfl
 have eE : cpD p X1 Y1 X2 Y2 = eD := by rw [heD, hgD, hsS]; rfl
 have eL : cpL p D X1 Y1 X2 Y2 = nc := by unfold cpL; rw [eT, hnc, hmd, hmc]
 have eN : cpQ p D X1 Y1 X2 Y2 = kb := by unfold cpQ; rw [eL, eR, eS, hkb, hka, hna, hnb, hma, hmb]
 have eM : cpM p D X1 Y1 X2 Y2 = od := by unfold cpM; rw [eL, eR, eS, hod, hoc, hoa, hob]
 have eB : cpB p D X1 Y1 X2 Y2 = Qq := by unfold cpB; rw [eN, eE, hQq]
 have eA : cpA p X1 Y1 X2 Y2 = Ac := by unfold cpA; rw [eE, hAc, hAa, hEe]
 have HV := Lib.hid (show rdR p D g 64 Ac Rc = cpF p D g X1 Y1 X2 Y2 by unfold cpF; rw [eA, eB, hRc])
 rw [eR] at a16 lrR d1
 rw [eS] at a17 lrS d2
 rw [eT] at a13 leV
 rw [eE] at a14 leD
 rw [eA, eB, ← hRc] at hok
 rw [eM, eN] at hsm
 rw [← hgU] at a7
 rw [← hgV] at a8
 rw [← hgD] at a9 lgD
 rw [← hsS] at a11
 rw [← hgD, ← hsS, ← heU] at a12
 rw [← hmc] at a18
 rw [← hmc, ← hmd] at a19
 have g0 : 0 ≤ deg gD := by rw [a9.1]; omega
 have e0 : 0 ≤ deg eD := by rw [a14.1]; omega
 have lsS : ∀ k, k < 64 → sS k < p := fun k _ => by rw [hsS]; exact addK_lt p0 k
 have lgU : ∀ k, k < 64 → gU k < p := fun k _ => by rw [hgU]; unfold bzU; exact Nat.mod_lt _ p0
 have lgV : ∀ k, k < 64 → gV k < p := fun k _ => by rw [hgV]; unfold bzW; exact Nat.mod_lt _ p0
 have leU : ∀ k, k < 64 → eU k < p := fun k _ => by rw [heU]; unfold bzU; exact Nat.mod_lt _ p0
 have lmc : ∀ k, k < 64 → mc k < p := fun k _ => by rw [hmc]; exact prd_lt p0 k
 have lmd : ∀ k, k < 64 → md k < p := fun k _ => by rw [hmd]; exact addK_lt p0 k
 have lnc : ∀ k, k < 64 → nc k < p := fun k _ => by rw [hnc]; exact prd_lt p0 k
 have lkb : ∀ k, k < 64 → kb k < p := fun k _ => by rw [hkb]; exact addK_lt p0 k
 have lAa : ∀ k, k < 64 → Aa k < p := fun k _ => by rw [hAa]; exact prd_lt p0 k
 have lEe : ∀ k, k < 64 → Ee k < p := fun k _ => by rw [hEe]; exact prd_lt p0 k
 have lQq : ∀ k, k < 64 → Qq k < p := fun k _ => by rw [hQq]; exact quoP_lt p0 k
 have e2 : 0 ≤ deg Ee := by
  have := (mon_prd hpr (fun k _ => leD k) (fun k _ => leD k) a14 a14 (by omega)).1
  rw [hEe, this]; omega
 have K1 := Lib.hid (show ∀ W, Calls Try.prog 157 #[.int .i64 (p : Int), .agg (zb 64 X1), .agg (zb 64 X2)] W fun e w' => e = .returned (.tuple #[.agg (zb 64 gD), .agg (zb 64 gU), .agg (zb 64 gV)]) ∧ Below W.heap.size W w' from fun W => by
  have := bezout_any p X1 X2 W hpr lX1 lX2 (.inl a1)
  rw [← hgD, ← hgU, ← hgV] at this; exact this)
 have K2 := Lib.hid (show ∀ W, Calls Try.prog 157 #[.int .i64 (p : Int), .agg (zb 64 gD), .agg (zb 64 sS)] W fun e w' => e = .returned (.tuple #[.agg (zb 64 eD), .agg (zb 64 eU), .agg (zb 64 eV)]) ∧ Below W.heap.size W w' from fun W => by
  have := bezout_any p gD sS W hpr (fun k _ => lgD k) lsS (.inl g0)
  rw [← heD, ← heU, ← heV] at this; exact this)
 have S1 := Lib.hid (show ∀ W, Calls Try.prog 173 #[.int .i64 (p : Int), .agg (zb 64 Y1), .agg (zb 64 Y2)] W fun e w' => e = .returned (.agg (zb 64 sS)) ∧ Below W.heap.size W w' from fun W => by
  have := sum_any p Y1 Y2 W p2 p7 lY1 lY2
  rw [← addK_one, ← hsS] at this; exact this)
 have P1 := Lib.hid (show ∀ W, Calls Try.prog 94 #[.int .i64 (p : Int), .agg (zb 64 eU), .agg (zb 64 gU)] W fun e w' => e = .returned (.agg (zb 64 rR)) ∧ Below W.heap.size W w' from fun W => by
  have := product_any p eU gU W p2 p7 leU lgU
  rw [← hrR] at this; exact this)
 have P2 := Lib.hid (show ∀ W, Calls Try.prog 94 #[.int .i64 (p : Int), .agg (zb 64 eU), .agg (zb 64 gV)] W fun e w' => e = .returned (.agg (zb 64 rS)) ∧ Below W.heap.size W w' from fun W => by
  have := product_any p eU gV W p2 p7 leU lgV
  rw [← hrS] at this; exact this)
 have P3 := Lib.hid (show ∀ W, Calls Try.prog 94 #[.int .i64 (p : Int), .agg (zb 64 X1), .agg (zb 64 Y2)] W fun e w' => e = .returned (.agg (zb 64 ma)) ∧ Below W.heap.size W w' from fun W => by
  have := product_any p X1 Y2 W p2 p7 lX1 lY2
  rw [← hma] at this; exact this)
 have P4 := Lib.hid (show ∀ W, Calls Try.prog 94 #[.int .i64 (p : Int), .agg (zb 64 rR), .agg (zb 64 ma)] W fun e w' => e = .returned (.agg (zb 64 na)) ∧ Below W.heap.size W w' from fun W => by
  have := product_any p rR ma W p2 p7 (fun k _ => lrR k) (fun k _ => by rw [hma]; exact prd_lt p0 k)
  rw [← hna] at this; exact this)
 have P5 := Lib.hid (show ∀ W, Calls Try.prog 94 #[.int .i64 (p : Int), .agg (zb 64 X2), .agg (zb 64 Y1)] W fun e w' => e = .returned (.agg (zb 64 mb)) ∧ Below W.heap.size W w' from fun W => by
  have := product_any p X2 Y1 W p2 p7 lX2 lY1
  rw [← hmb] at this; exact this)
 have P6 := Lib.hid (show ∀ W, Calls Try.prog 94 #[.int .i64 (p : Int), .agg (zb 64 rS), .agg (zb 64 mb)] W fun e w' => e = .returned (.agg (zb 64 nb)) ∧ Below W.heap.size W w' from fun W => by
  have := product_any p rS mb W p2 p7 (fun k _ => lrS k) (fun k _ => by rw [hmb]; exact prd_lt p0 k)
  rw [← hnb] at this; exact this)
 have S2 := Lib.hid (show ∀ W, Calls Try.prog 173 #[.int .i64 (p : Int), .agg (zb 64 na), .agg (zb 64 nb)] W fun e w' => e = .returned (.agg (zb 64 ka)) ∧ Below W.heap.size W w' from fun W => by
  have := sum_any p na nb W p2 p7 (fun k _ => by rw [hna]; exact prd_lt p0 k) (fun k _ => by rw [hnb]; exact prd_lt p0 k)
  rw [← addK_one, ← hka] at this; exact this)
 have P7 := Lib.hid (show ∀ W, Calls Try.prog 94 #[.int .i64 (p : Int), .agg (zb 64 Y1), .agg (zb 64 Y2)] W fun e w' => e = .returned (.agg (zb 64 mc)) ∧ Below W.heap.size W w' from fun W => by
  have := product_any p Y1 Y2 W p2 p7 lY1 lY2
  rw [← hmc] at this; exact this)
 have S3 := Lib.hid (show ∀ W, Calls Try.prog 173 #[.int .i64 (p : Int), .agg (zb 64 mc), .agg (zb 64 D)] W fun e w' => e = .returned (.agg (zb 64 md)) ∧ Below W.heap.size W w' from fun W => by
  have := sum_any p mc D W p2 p7 lmc lD
  rw [← addK_one, ← hmd] at this; exact this)
 have P8 := Lib.hid (show ∀ W, Calls Try.prog 94 #[.int .i64 (p : Int), .agg (zb 64 eV), .agg (zb 64 md)] W fun e w' => e = .returned (.agg (zb 64 nc)) ∧ Below W.heap.size W w' from fun W => by
  have := product_any p eV md W p2 p7 (fun k _ => leV k) lmd
  rw [← hnc] at this; exact this)
 have S4 := Lib.hid (show ∀ W, Calls Try.prog 173 #[.int .i64 (p : Int), .agg (zb 64 ka), .agg (zb 64 nc)] W fun e w' => e = .returned (.agg (zb 64 kb)) ∧ Below W.heap.size W w' from fun W => by
  have := sum_any p ka nc W p2 p7 (fun k _ => by rw [hka]; exact addK_lt p0 k) lnc
  rw [← addK_one, ← hkb] at this; exact this)
 have Q1 := Lib.hid (show ∀ W, Calls Try.prog 167 #[.int .i64 (p : Int), .agg (zb 64 kb), .agg (zb 64 eD)] W fun e w' => e = .returned (.tuple #[.agg (zb 64 Qq), .agg (zb 64 (resP p kb eD))]) ∧ Below W.heap.size W w' from fun W => by
  have := quotientAndRest_any p kb eD W hpr lkb (fun k _ => leD k) e0
  rw [← hQq] at this; exact this)
 have P9 := Lib.hid (show ∀ W, Calls Try.prog 94 #[.int .i64 (p : Int), .agg (zb 64 X1), .agg (zb 64 X2)] W fun e w' => e = .returned (.agg (zb 64 Aa)) ∧ Below W.heap.size W w' from fun W => by
  have := product_any p X1 X2 W p2 p7 lX1 lX2
  rw [← hAa] at this; exact this)
 have P10 := Lib.hid (show ∀ W, Calls Try.prog 94 #[.int .i64 (p : Int), .agg (zb 64 eD), .agg (zb 64 eD)] W fun e w' => e = .returned (.agg (zb 64 Ee)) ∧ Below W.heap.size W w' from fun W => by
  have := product_any p eD eD W p2 p7 (fun k _ => leD k) (fun k _ => leD k)
  rw [← hEe] at this; exact this)
 have Q2 := Lib.hid (show ∀ W, Calls Try.prog 167 #[.int .i64 (p : Int), .agg (zb 64 Aa), .agg (zb 64 Ee)] W fun e w' => e = .returned (.tuple #[.agg (zb 64 Ac), .agg (zb 64 (resP p Aa Ee))]) ∧ Below W.heap.size W w' from fun W => by
  have := quotientAndRest_any p Aa Ee W hpr lAa lEe e2
  rw [← hAc] at this; exact this)
 have Q3 := Lib.hid (show ∀ W, Calls Try.prog 150 #[.int .i64 (p : Int), .agg (zb 64 Qq), .agg (zb 64 Ac)] W fun e w' => e = .returned (.agg (zb 64 Rc)) ∧ Below W.heap.size W w' from fun W => by
  have := restOf_any p Qq Ac W hpr lQq hok.1 (fmI_deg hok).1
  rw [← hRc] at this; exact this)
 have RD := Lib.hid (fun W => reduced_any p g D Ac Rc W hpr lD hD hok)
 rw [HV.out] at RD
 obtain ⟨Fa, hFa⟩ : ∃ Fa, Fa = (cpF p D g X1 Y1 X2 Y2).1 := ⟨_, rfl⟩
 obtain ⟨Fb, hFb⟩ : ∃ Fb, Fb = (cpF p D g X1 Y1 X2 Y2).2 := ⟨_, rfl⟩
 rw [← hFa, ← hFb] at RD ⊢
 clear a1 a2 a3 a4 a5 a6 a7 a8 a9 a10 a11 a12 a13 a14 a15 a16 a17 a18 a19 lrR lrS leV leD lgD hok hsm d1 d2 eR eS eT eE eL eN eM eB eA g0 e0 e2 lsS lgU lgV leU lmc lmd lnc lkb lAa lEe lQq HV lX1 lX2 lY1 lY2 lD hD hg hFa hFb hgD hgU hgV hsS heD heU heV hrR hrS hma hna hmb hnb hka hmc hmd hnc hkb hoa hob hoc hod hQq hAa hEe hAc hRc
 go_enter Try.func135, Try.ntmps135
 go_upto_region 1 with (fail)
 rw [← frC_zero]
 obtain ⟨W1, hwo⟩ : ∃ v : World, v = ((((w.alloc (.cells (fdC (p : Int) D).toArray 107)).alloc (.cells (frC X1 Y1).toArray 55)).alloc (.cells (frC X2 Y2).toArray 55)).alloc (.cells (frC (fun _ => 0) (fun _ => 0)).toArray 55)) := ⟨_, rfl⟩
 have B0 : Row W1 (w.heap.size) 107 (fdC (p : Int) D).toArray := by subst hwo; have := ((((Row.new w 107 (fdC (p : Int) D).toArray).alloc (.cells (frC X1 Y1).toArray 55)).alloc (.cells (frC X2 Y2).toArray 55)).alloc (.cells (frC (fun _ => 0) (fun _ => 0)).toArray 55)); simpa using this
 have B1 : Row W1 (w.heap.size + 1) 55 (frC X1 Y1).toArray := by subst hwo; have := (((Row.new (w.alloc (.cells (fdC (p : Int) D).toArray 107)) 55 (frC X1 Y1).toArray).alloc (.cells (frC X2 Y2).toArray 55)).alloc (.cells (frC (fun _ => 0) (fun _ => 0)).toArray 55)); simpa using this
 have B2 : Row W1 (w.heap.size + 1 + 1) 55 (frC X2 Y2).toArray := by subst hwo; have := ((Row.new ((w.alloc (.cells (fdC (p : Int) D).toArray 107)).alloc (.cells (frC X1 Y1).toArray 55)) 55 (frC X2 Y2).toArray).alloc (.cells (frC (fun _ => 0) (fun _ => 0)).toArray 55)); simpa using this
 have B3 : Row W1 (w.heap.size + 1 + 1 + 1) 55 (frC (fun _ => 0) (fun _ => 0)).toArray := by subst hwo; have := (Row.new (((w.alloc (.cells (fdC (p : Int) D).toArray 107)).alloc (.cells (frC X1 Y1).toArray 55)).alloc (.cells (frC X2 Y2).toArray 55)) 55 (frC (fun _ => 0) (fun _ => 0)).toArray); simpa using this
 have hb : Below w.heap.size w W1 := by subst hwo; exact (((((Below.refl _ _).alloc (Nat.le_refl _) _).alloc (by simp) _).alloc (by simp; omega) _).alloc (by simp; omega) _)
 rw [← hwo]
 clear hwo
 have lt_B0 := B0.lt
 have lt_B1 := B1.lt
 have lt_B2 := B2.lt
 have lt_B3 := B3.lt
 go_upto_region 2 with (first | rw [← z64] | (refine wpList_load_rowc rfl 2 (.tmp 19) rfl _ 0 rfl 107 _ (B0) (.int .i64 (p : Int)) (fdC_at _ _) _ Try.underlying2 rfl ?_) | (refine wpList_load_mid rfl 23 (.tmp 21) rfl _ 0 rfl (bl 64 X1) _ (B1.fra) Try.underlying23 rfl (by rw [zl]; exact Try.size23) ?_) | (refine wpList_load_mid rfl 23 (.tmp 23) rfl _ 0 rfl (bl 64 X2) _ (B2.fra) Try.underlying23 rfl (by rw [zl]; exact Try.size23) ?_) | (go_at_call 157; refine (K1.out _).mono ?_; rintro e W2 ⟨rfl, hW2⟩; replace B0 := B0.zw hW2; replace B1 := B1.zw hW2; replace B2 := B2.zw hW2; replace B3 := B3.zw hW2; replace hb := (hb).trans (hW2.mono (hb).size)) | (refine wpList_store_blk rfl 23 (.tmp 7) (.tmp 26) rfl _ 64 (gD) rfl rfl 23 _ ((((Blk.new W2 64 23 (fun _ => 0)).alloc (.cells (zb 64 (fun _ => 0)) 23)).alloc (.cells (zb 64 (fun _ => 0)) 23))) Try.size23 ?_; try simp only [Act.put]) | (refine wpList_store_blk rfl 23 (.tmp 8) (.tmp 27) rfl _ 64 (gU) rfl rfl 23 _ ((((show Blk ((W2.alloc (.cells (zb 64 (fun _ => 0)) 23)).alloc (.cells (zb 64 (fun _ => 0)) 23)) (W2.heap.size + 1) 64 23 (fun _ => 0) by have := Blk.new (W2.alloc (.cells (zb 64 (fun _ => 0)) 23)) 64 23 (fun _ => 0); simpa using this).alloc (.cells (zb 64 (fun _ => 0)) 23)).rowOther (by omega))) Try.size23 ?_; try simp only [Act.put]) | (refine wpList_store_blk rfl 23 (.tmp 9) (.tmp 28) rfl _ 64 (gV) rfl rfl 23 _ ((((show Blk (((W2.alloc (.cells (zb 64 (fun _ => 0)) 23)).alloc (.cells (zb 64 (fun _ => 0)) 23)).alloc (.cells (zb 64 (fun _ => 0)) 23)) (W2.heap.size + 1 + 1) 64 23 (fun _ => 0) by have := Blk.new ((W2.alloc (.cells (zb 64 (fun _ => 0)) 23)).alloc (.cells (zb 64 (fun _ => 0)) 23)) 64 23 (fun _ => 0); simpa using this).rowOther (by omega)).rowOther (by omega))) Try.size23 ?_; try simp only [Act.put]))
 have lt_B0 := B0.lt
 have lt_B1 := B1.lt
 have lt_B2 := B2.lt
 have lt_B3 := B3.lt
 have lhb := hb.size
 obtain ⟨W3, hwo, hzQ⟩ : ∃ v : World, v = ((((((W2.alloc (.cells (zb 64 (fun _ => 0)) 23)).alloc (.cells (zb 64 (fun _ => 0)) 23)).alloc (.cells (zb 64 (fun _ => 0)) 23)).setRow (W2.heap.size) (zb 64 (gD))).setRow (W2.heap.size + 1) (zb 64 (gU))).setRow (W2.heap.size + 1 + 1) (zb 64 (gV))) ∧ Row v (w.heap.size) 107 (fdC (p : Int) D).toArray ∧ Row v (w.heap.size + 1) 55 (frC X1 Y1).toArray ∧ Row v (w.heap.size + 1 + 1) 55 (frC X2 Y2).toArray ∧ Row v (w.heap.size + 1 + 1 + 1) 55 (frC (fun _ => 0) (fun _ => 0)).toArray ∧ Blk v (W2.heap.size) 64 23 (gD) ∧ Blk v (W2.heap.size + 1) 64 23 (gU) ∧ Blk v (W2.heap.size + 1 + 1) 64 23 (gV) ∧ Below w.heap.size w v := ⟨_, rfl, ((((((B0.alloc (.cells (zb 64 (fun _ => 0)) 23)).alloc (.cells (zb 64 (fun _ => 0)) 23)).alloc (.cells (zb 64 (fun _ => 0)) 23)).rowOther (by omega)).rowOther (by omega)).rowOther (by omega)), ((((((B1.alloc (.cells (zb 64 (fun _ => 0)) 23)).alloc (.cells (zb 64 (fun _ => 0)) 23)).alloc (.cells (zb 64 (fun _ => 0)) 23)).rowOther (by omega)).rowOther (by omega)).rowOther (by omega)), ((((((B2.alloc (.cells (zb 64 (fun _ => 0)) 23)).alloc (.cells (zb 64 (fun _ => 0)) 23)).alloc (.cells (zb 64 (fun _ => 0)) 23)).rowOther (by omega)).rowOther (by omega)).rowOther (by omega)), ((((((B3.alloc (.cells (zb 64 (fun _ => 0)) 23)).alloc (.cells (zb 64 (fun _ => 0)) 23)).alloc (.cells (zb 64 (fun _ => 0)) 23)).rowOther (by omega)).rowOther (by omega)).rowOther (by omega)), ((((((Blk.new W2 64 23 (fun _ => 0)).alloc (.cells (zb 64 (fun _ => 0)) 23)).alloc (.cells (zb 64 (fun _ => 0)) 23)).row (gD)).rowOther (by omega)).rowOther (by omega)), (((((show Blk ((W2.alloc (.cells (zb 64 (fun _ => 0)) 23)).alloc (.cells (zb 64 (fun _ => 0)) 23)) (W2.heap.size + 1) 64 23 (fun _ => 0) by have := Blk.new (W2.alloc (.cells (zb 64 (fun _ => 0)) 23)) 64 23 (fun _ => 0); simpa using this).alloc (.cells (zb 64 (fun _ => 0)) 23)).rowOther (by omega)).row (gU)).rowOther (by omega)), ((((show Blk (((W2.alloc (.cells (zb 64 (fun _ => 0)) 23)).alloc (.cells (zb 64 (fun _ => 0)) 23)).alloc (.cells (zb 64 (fun _ => 0)) 23)) (W2.heap.size + 1 + 1) 64 23 (fun _ => 0) by have := Blk.new ((W2.alloc (.cells (zb 64 (fun _ => 0)) 23)).alloc (.cells (zb 64 (fun _ => 0)) 23)) 64 23 (fun _ => 0); simpa using this).rowOther (by omega)).rowOther (by omega)).row (gV)), (zr (zr (zr (((hb.alloc (by have := hb.size; simp; omega) (.cells (zb 64 (fun _ => 0)) 23)).alloc (by have := hb.size; simp; omega) (.cells (zb 64 (fun _ => 0)) 23)).alloc (by have := hb.size; simp; omega) (.cells (zb 64 (fun _ => 0)) 23)) (by omega) _) (by omega) _) (by omega) _)⟩
 rw [← hwo]
 clear hwo B0 B1 B2 B3 hb
 obtain ⟨B0, B1, B2, B3, B4, B5, B6, hb⟩ := hzQ
 obtain ⟨N1, hNN⟩ : ∃ n : Nat, n = W2.heap.size := ⟨_, rfl⟩
 rw [← hNN] at lt_B0 lt_B1 lt_B2 lt_B3 lhb B4 B5 B6 ⊢
 clear hNN
 have zN1_0 := lt_B0
 have zN1_1 := lt_B1
 have zN1_2 := lt_B2
 have zN1_3 := lt_B3
 have zN1 := lhb
 clear lt_B0 lt_B1 lt_B2 lt_B3 lhb
 try simp only [Act.put, pA, pB, pC]
 have lt_B0 : (w.heap.size) < W3.heap.size := B0.lt
 have lt_B1 : (w.heap.size + 1) < W3.heap.size := B1.lt
 have lt_B2 : (w.heap.size + 1 + 1) < W3.heap.size := B2.lt
 have lt_B3 : (w.heap.size + 1 + 1 + 1) < W3.heap.size := B3.lt
 have lt_B4 : (N1) < W3.heap.size := B4.lt
 have lt_B5 : (N1 + 1) < W3.heap.size := B5.lt
 have lt_B6 : (N1 + 1 + 1) < W3.heap.size := B6.lt
 refine zq Try.mixed (by kernel_rfl) (by kernel_rfl) (fun v => by (simp only [frL, Act.put, pA, pB, pC, Nat.reduceAdd, Nat.zero_add]; exact rfl))
  (fun L v W4 => Below W3.heap.size W3 W4 ∧ (L 15 = true → AF (v 15) W4 W3.heap.size 64 23) ∧ (L 16 = true → AF (v 16) W4 W3.heap.size 64 23) ∧ (L 17 = true → AF (v 17) W4 W3.heap.size 64 23) ∧ (L 18 = true → PF (v 15) W4 W3.heap.size 64 23 (eD)) ∧ (L 19 = true → PF (v 16) W4 W3.heap.size 64 23 (eU)) ∧ (L 20 = true → PF (v 17) W4 W3.heap.size 64 23 (eV)) ∧ (L 15 = true → L 16 = true → v 15 ≠ v 16) ∧ (L 15 = true → L 17 = true → v 15 ≠ v 17) ∧ (L 16 = true → L 17 = true → v 16 ≠ v 17) ∧ VF L v [some (.pointer (some ⟨w.heap.size, 0, none⟩)), some (.int .i64 (p : Int)), some (.agg (zb 64 (gD))), some (.pointer (some ⟨w.heap.size, 0, none⟩)), some (.int .i64 (p : Int)), some (.pointer (some ⟨w.heap.size + 1, 64, none⟩)), some (.agg (zb 64 (Y1))), some (.pointer (some ⟨w.heap.size + 1 + 1, 64, none⟩)), some (.agg (zb 64 (Y2))), some (.agg (zb 64 (sS))), some (.tuple #[(.agg (zb 64 (eD))), (.agg (zb 64 (eU))), (.agg (zb 64 (eV)))]), some (.tuple #[(.agg (zb 64 (eD))), (.agg (zb 64 (eU))), (.agg (zb 64 (eV)))]), some (.agg (zb 64 (eD))), some (.agg (zb 64 (eU))), some (.agg (zb 64 (eV))), none, none, none, none, none, none]) ?_ ?_ ?_
 · intro v hv0
   exact ⟨(Below.refl _ W3).drew, (fun h => by cases h), (fun h => by cases h), (fun h => by cases h), (fun h => by cases h), (fun h => by cases h), (fun h => by cases h), (fun h => by cases h), (fun h => by cases h), (fun h => by cases h), VF.start⟩
 · refine (.cons rfl ?_ (.cons rfl ?_ (.cons rfl ?_ (.cons rfl ?_ (.cons rfl ?_ (.cons rfl ?_ (.cons rfl ?_ (.cons rfl ?_ (.cons rfl ?_ (.cons rfl ?_ (.cons rfl ?_ (.cons rfl ?_ (.cons rfl ?_ (.cons rfl ?_ (.cons rfl ?_ (.cons rfl ?_ (.cons rfl ?_ (.cons rfl ?_ (.cons rfl ?_ (.cons rfl ?_ (.cons rfl ?_ (.nil _))))))))))))))))))))))
   all_goals intro L v W4 hd hn ⟨hY, h15, h16, h17, h18, h19, h20, d15_16, d15_17, d16_17, V⟩ K hK
   · go_wp2_with fail
     exact hK _ (.pointer (some ⟨w.heap.size, 0, none⟩)) _ (by simp only [Act.put, pA, pB, pC ]) ⟨hY, h15, h16, h17, h18, h19, h20, d15_16, d15_17, d16_17, V.step 0 rfl⟩
   · have e0 := V.at (zdq hd 0 rfl) rfl
     refine wp_load_rowc 2 _ rfl _ 0 e0 107 _ (B0.zw hY) (.int .i64 (p : Int)) (fdC_at _ _) _ Try.underlying2 rfl ?_
     exact hK _ _ _ rfl ⟨hY, h15, h16, h17, h18, h19, h20, d15_16, d15_17, d16_17, V.step 1 rfl⟩
   · refine zlc (B4.zw hY) Try.underlying23 Try.size23 ?_
     exact hK _ _ _ rfl ⟨hY, h15, h16, h17, h18, h19, h20, d15_16, d15_17, d16_17, V.step 2 rfl⟩
   · go_wp2_with fail
     exact hK _ (.pointer (some ⟨w.heap.size, 0, none⟩)) _ (by simp only [Act.put, pA, pB, pC ]) ⟨hY, h15, h16, h17, h18, h19, h20, d15_16, d15_17, d16_17, V.step 3 rfl⟩
   · have e3 := V.at (zdq hd 3 rfl) rfl
     refine wp_load_rowc 2 _ rfl _ 0 e3 107 _ (B0.zw hY) (.int .i64 (p : Int)) (fdC_at _ _) _ Try.underlying2 rfl ?_
     exact hK _ _ _ rfl ⟨hY, h15, h16, h17, h18, h19, h20, d15_16, d15_17, d16_17, V.step 4 rfl⟩
   · go_wp2_with fail
     exact hK _ (.pointer (some ⟨w.heap.size + 1, 64, none⟩)) _ (by simp only [Act.put, pA, pB, pC ]) ⟨hY, h15, h16, h17, h18, h19, h20, d15_16, d15_17, d16_17, V.step 5 rfl⟩
   · have e5 := V.at (zdq hd 5 rfl) rfl
     refine wp_load_mid 23 _ rfl _ 64 e5 _ _ ((B1.zw hY).frb) Try.underlying23 rfl (by rw [zl]; exact Try.size23) ?_
     exact hK _ _ _ rfl ⟨hY, h15, h16, h17, h18, h19, h20, d15_16, d15_17, d16_17, V.step 6 rfl⟩
   · go_wp2_with fail
     exact hK _ (.pointer (some ⟨w.heap.size + 1 + 1, 64, none⟩)) _ (by simp only [Act.put, pA, pB, pC ]) ⟨hY, h15, h16, h17, h18, h19, h20, d15_16, d15_17, d16_17, V.step 7 rfl⟩
   · have e7 := V.at (zdq hd 7 rfl) rfl
     refine wp_load_mid 23 _ rfl _ 64 e7 _ _ ((B2.zw hY).frb) Try.underlying23 rfl (by rw [zl]; exact Try.size23) ?_
     exact hK _ _ _ rfl ⟨hY, h15, h16, h17, h18, h19, h20, d15_16, d15_17, d16_17, V.step 8 rfl⟩
   · have e4 := V.at (zdq hd 4 rfl) rfl
     have e6 := V.at (zdq hd 6 rfl) rfl
     have e8 := V.at (zdq hd 8 rfl) rfl
     go_wp2_with (go_at_call 173; refine (S1.out _).mono ?_; rintro e wy ⟨rfl, hy⟩)
     exact hK _ (.agg (zb 64 (sS))) _ (by simp only [Act.put, pA, pB, pC, e4, e6, e8]) ⟨hY.trans (hy.mono hY.size), (fun h => (h15 h).below hy), (fun h => (h16 h).below hy), (fun h => (h17 h).below hy), (fun h => (h18 h).below hy), (fun h => (h19 h).below hy), (fun h => (h20 h).below hy), d15_16, d15_17, d16_17, V.step 9 rfl⟩
   · have e1 := V.at (zdq hd 1 rfl) rfl
     have e2 := V.at (zdq hd 2 rfl) rfl
     have e9 := V.at (zdq hd 9 rfl) rfl
     go_wp2_with (go_at_call 157; refine (K2.out _).mono ?_; rintro e wy ⟨rfl, hy⟩)
     exact hK _ (.tuple #[(.agg (zb 64 (eD))), (.agg (zb 64 (eU))), (.agg (zb 64 (eV)))]) _ (by simp only [Act.put, pA, pB, pC, e1, e2, e9]) ⟨hY.trans (hy.mono hY.size), (fun h => (h15 h).below hy), (fun h => (h16 h).below hy), (fun h => (h17 h).below hy), (fun h => (h18 h).below hy), (fun h => (h19 h).below hy), (fun h => (h20 h).below hy), d15_16, d15_17, d16_17, V.step 10 rfl⟩
   · have e10 := V.at (zdq hd 10 rfl) rfl
     go_wp2_with fail
     exact hK _ (.tuple #[(.agg (zb 64 (eD))), (.agg (zb 64 (eU))), (.agg (zb 64 (eV)))]) _ (by simp only [Act.put, pA, pB, pC, e10]) ⟨hY, h15, h16, h17, h18, h19, h20, d15_16, d15_17, d16_17, V.step 11 rfl⟩
   · have e11 := V.at (zdq hd 11 rfl) rfl
     go_wp2_with fail
     exact hK _ (.agg (zb 64 (eD))) _ (by simp only [Act.put, pA, pB, pC, e11]) ⟨hY, h15, h16, h17, h18, h19, h20, d15_16, d15_17, d16_17, V.step 12 rfl⟩
   · have e11 := V.at (zdq hd 11 rfl) rfl
     go_wp2_with fail
     exact hK _ (.agg (zb 64 (eU))) _ (by simp only [Act.put, pA, pB, pC, e11]) ⟨hY, h15, h16, h17, h18, h19, h20, d15_16, d15_17, d16_17, V.step 13 rfl⟩
   · have e11 := V.at (zdq hd 11 rfl) rfl
     go_wp2_with fail
     exact hK _ (.agg (zb 64 (eV))) _ (by simp only [Act.put, pA, pB, pC, e11]) ⟨hY, h15, h16, h17, h18, h19, h20, d15_16, d15_17, d16_17, V.step 14 rfl⟩
   · go_wp2_with fail
     rw [← z64]
     exact hK _ (.pointer (some ⟨W4.heap.size, 0, none⟩)) _ (by simp only [Act.put, pA, pB, pC ]) ⟨hY.alloc hY.size _, (fun _ => (PF.new W4 64 23 _ hY.size).af), (fun h => (h16 h).below (zal _ _)), (fun h => (h17 h).below (zal _ _)), (fun h => absurd rfl (hn 18 _ rfl h ⟨15, .data⟩ (by simp) rfl)), (fun h => (h19 h).below (zal _ _)), (fun h => (h20 h).below (zal _ _)), (fun h g1 => Ne.symm ((h16 g1).ne_new)), (fun h g1 => Ne.symm ((h17 g1).ne_new)), d16_17, V.skip 15 rfl⟩
   · go_wp2_with fail
     rw [← z64]
     exact hK _ (.pointer (some ⟨W4.heap.size, 0, none⟩)) _ (by simp only [Act.put, pA, pB, pC ]) ⟨hY.alloc hY.size _, (fun h => (h15 h).below (zal _ _)), (fun _ => (PF.new W4 64 23 _ hY.size).af), (fun h => (h17 h).below (zal _ _)), (fun h => (h18 h).below (zal _ _)), (fun h => absurd rfl (hn 19 _ rfl h ⟨16, .data⟩ (by simp) rfl)), (fun h => (h20 h).below (zal _ _)), (fun h g1 => (h15 h).ne_new), d15_17, (fun h g1 => Ne.symm ((h17 g1).ne_new)), V.skip 16 rfl⟩
   · go_wp2_with fail
     rw [← z64]
     exact hK _ (.pointer (some ⟨W4.heap.size, 0, none⟩)) _ (by simp only [Act.put, pA, pB, pC ]) ⟨hY.alloc hY.size _, (fun h => (h15 h).below (zal _ _)), (fun h => (h16 h).below (zal _ _)), (fun _ => (PF.new W4 64 23 _ hY.size).af), (fun h => (h18 h).below (zal _ _)), (fun h => (h19 h).below (zal _ _)), (fun h => absurd rfl (hn 20 _ rfl h ⟨17, .data⟩ (by simp) rfl)), d15_16, (fun h g1 => (h15 h).ne_new), (fun h g1 => (h16 h).ne_new), V.skip 17 rfl⟩
   · have e12 := V.at (zdq hd 12 rfl) rfl
     obtain ⟨gz, b, ea, hN, hk⟩ := (h15 (zdq hd 15 rfl)).out
     refine zsb 23 _ _ rfl b 64 (eD) ea e12 23 gz hk Try.size23 ?_
     exact hK _ undef _ rfl ⟨zr hY hN _, (fun h => (h15 h).row hk), (fun h => (h16 h).row hk), (fun h => (h17 h).row hk), (fun _ => by rw [show updV v 18 undef 15 = v 15 from rfl, ea]; exact PF.row hk hN _), (fun h => (h19 h).rowOther (by rw [← ea]; exact (Ne.symm (d15_16 (zdq hd 15 rfl) (zdq hd 16 rfl))))), (fun h => (h20 h).rowOther (by rw [← ea]; exact (Ne.symm (d15_17 (zdq hd 15 rfl) (zdq hd 17 rfl))))), d15_16, d15_17, d16_17, V.skip 18 rfl⟩
   · have e13 := V.at (zdq hd 13 rfl) rfl
     obtain ⟨gz, b, ea, hN, hk⟩ := (h16 (zdq hd 16 rfl)).out
     refine zsb 23 _ _ rfl b 64 (eU) ea e13 23 gz hk Try.size23 ?_
     exact hK _ undef _ rfl ⟨zr hY hN _, (fun h => (h15 h).row hk), (fun h => (h16 h).row hk), (fun h => (h17 h).row hk), (fun h => (h18 h).rowOther (by rw [← ea]; exact (d15_16 (zdq hd 15 rfl) (zdq hd 16 rfl)))), (fun _ => by rw [show updV v 19 undef 16 = v 16 from rfl, ea]; exact PF.row hk hN _), (fun h => (h20 h).rowOther (by rw [← ea]; exact (Ne.symm (d16_17 (zdq hd 16 rfl) (zdq hd 17 rfl))))), d15_16, d15_17, d16_17, V.skip 19 rfl⟩
   · have e14 := V.at (zdq hd 14 rfl) rfl
     obtain ⟨gz, b, ea, hN, hk⟩ := (h17 (zdq hd 17 rfl)).out
     refine zsb 23 _ _ rfl b 64 (eV) ea e14 23 gz hk Try.size23 ?_
     exact hK _ undef _ rfl ⟨zr hY hN _, (fun h => (h15 h).row hk), (fun h => (h16 h).row hk), (fun h => (h17 h).row hk), (fun h => (h18 h).rowOther (by rw [← ea]; exact (d15_17 (zdq hd 15 rfl) (zdq hd 17 rfl)))), (fun h => (h19 h).rowOther (by rw [← ea]; exact (d16_17 (zdq hd 16 rfl) (zdq hd 17 rfl)))), (fun _ => by rw [show updV v 20 undef 17 = v 17 from rfl, ea]; exact PF.row hk hN _), d15_16, d15_17, d16_17, V.skip 20 rfl⟩
 · intro L v W4 hL ⟨hY, h15, h16, h17, h18, h19, h20, d15_16, d15_17, d16_17, V⟩
   obtain ⟨k2_15, e15, hNk2_15, hk2_15⟩ := (h18 (hL 18 (by decide))).out
   obtain ⟨k2_16, e16, hNk2_16, hk2_16⟩ := (h19 (hL 19 (by decide))).out
   obtain ⟨k2_17, e17, hNk2_17, hk2_17⟩ := (h20 (hL 20 (by decide))).out
   have n15_16 := d15_16 (hL 15 (by decide)) (hL 16 (by decide))
   have n15_17 := d15_17 (hL 15 (by decide)) (hL 17 (by decide))
   have n16_17 := d16_17 (hL 16 (by decide)) (hL 17 (by decide))
   have e0 := V.at (hL 0 (by decide)) rfl
   have e1 := V.at (hL 1 (by decide)) rfl
   have e2 := V.at (hL 2 (by decide)) rfl
   have e3 := V.at (hL 3 (by decide)) rfl
   have e4 := V.at (hL 4 (by decide)) rfl
   have e5 := V.at (hL 5 (by decide)) rfl
   have e6 := V.at (hL 6 (by decide)) rfl
   have e7 := V.at (hL 7 (by decide)) rfl
   have e8 := V.at (hL 8 (by decide)) rfl
   have e9 := V.at (hL 9 (by decide)) rfl
   have e10 := V.at (hL 10 (by decide)) rfl
   have e11 := V.at (hL 11 (by decide)) rfl
   have e12 := V.at (hL 12 (by decide)) rfl
   have e13 := V.at (hL 13 (by decide)) rfl
   have e14 := V.at (hL 14 (by decide)) rfl
   clear hL h15 h16 h17 h18 h19 h20 d15_16 d15_17 d16_17 V
   replace B0 := B0.zw hY
   replace B1 := B1.zw hY
   replace B2 := B2.zw hY
   replace B3 := B3.zw hY
   replace B4 := B4.zw hY
   replace B5 := B5.zw hY
   replace B6 := B6.zw hY
   replace hb := hb.trans (hY.mono hb.size)
   clear hY
   rw [e15, e16] at n15_16
   have mk2_15_16 : k2_15 ≠ k2_16 := fun h => n15_16 (by rw [h])
   clear n15_16
   rw [e15, e17] at n15_17
   have mk2_15_17 : k2_15 ≠ k2_17 := fun h => n15_17 (by rw [h])
   clear n15_17
   rw [e16, e17] at n16_17
   have mk2_16_17 : k2_16 ≠ k2_17 := fun h => n16_17 (by rw [h])
   clear n16_17
   simp only [Exit.then, e15, e16, e17, e0, e1, e2, e3, e4, e5, e6, e7, e8, e9, e10, e11, e12, e13, e14]
   clear e15 e16 e17 e0 e1 e2 e3 e4 e5 e6 e7 e8 e9 e10 e11 e12 e13 e14
   have B7 := hk2_15
   clear hk2_15
   have zk2_15_0 : w.heap.size < k2_15 := by omega
   have zk2_15_1 : w.heap.size + 1 < k2_15 := by omega
   have zk2_15_2 : w.heap.size + 1 + 1 < k2_15 := by omega
   have zk2_15_3 : w.heap.size + 1 + 1 + 1 < k2_15 := by omega
   have zk2_15_4 : N1 < k2_15 := by omega
   have zk2_15_5 : N1 + 1 < k2_15 := by omega
   have zk2_15_6 : N1 + 1 + 1 < k2_15 := by omega
   have B8 := hk2_16
   clear hk2_16
   have zk2_16_0 : w.heap.size < k2_16 := by omega
   have zk2_16_1 : w.heap.size + 1 < k2_16 := by omega
   have zk2_16_2 : w.heap.size + 1 + 1 < k2_16 := by omega
   have zk2_16_3 : w.heap.size + 1 + 1 + 1 < k2_16 := by omega
   have zk2_16_4 : N1 < k2_16 := by omega
   have zk2_16_5 : N1 + 1 < k2_16 := by omega
   have zk2_16_6 : N1 + 1 + 1 < k2_16 := by omega
   have B9 := hk2_17
   clear hk2_17
   have zk2_17_0 : w.heap.size < k2_17 := by omega
   have zk2_17_1 : w.heap.size + 1 < k2_17 := by omega
   have zk2_17_2 : w.heap.size + 1 + 1 < k2_17 := by omega
   have zk2_17_3 : w.heap.size + 1 + 1 + 1 < k2_17 := by omega
   have zk2_17_4 : N1 < k2_17 := by omega
   have zk2_17_5 : N1 + 1 < k2_17 := by omega
   have zk2_17_6 : N1 + 1 + 1 < k2_17 := by omega
   clear lt_B0 lt_B1 lt_B2 lt_B3 lt_B4 lt_B5 lt_B6
   go_upto_region 3 with (fail)
   have lt_B0 : (w.heap.size) < W4.heap.size := B0.lt
   have lt_B1 : (w.heap.size + 1) < W4.heap.size := B1.lt
   have lt_B2 : (w.heap.size + 1 + 1) < W4.heap.size := B2.lt
   have lt_B3 : (w.heap.size + 1 + 1 + 1) < W4.heap.size := B3.lt
   have lt_B4 : (N1) < W4.heap.size := B4.lt
   have lt_B5 : (N1 + 1) < W4.heap.size := B5.lt
   have lt_B6 : (N1 + 1 + 1) < W4.heap.size := B6.lt
   have lt_B7 : (k2_15) < W4.heap.size := B7.lt
   have lt_B8 : (k2_16) < W4.heap.size := B8.lt
   have lt_B9 : (k2_17) < W4.heap.size := B9.lt
   refine zq Try.mixed (by kernel_rfl) (by kernel_rfl) (fun v => by (simp only [frL, Act.put, pA, pB, pC, Nat.reduceAdd, Nat.zero_add]; exact rfl))
    (fun L v W5 => Below W4.heap.size W4 W5 ∧ (L 10 = true → AF (v 10) W5 W4.heap.size 64 23) ∧ (L 11 = true → AF (v 11) W5 W4.heap.size 64 23) ∧ (L 12 = true → PF (v 10) W5 W4.heap.size 64 23 (rR)) ∧ (L 13 = true → PF (v 11) W5 W4.heap.size 64 23 (rS)) ∧ (L 10 = true → L 11 = true → v 10 ≠ v 11) ∧ VF L v [some (.pointer (some ⟨w.heap.size, 0, none⟩)), some (.int .i64 (p : Int)), some (.agg (zb 64 (eU))), some (.agg (zb 64 (gU))), some (.agg (zb 64 (rR))), some (.pointer (some ⟨w.heap.size, 0, none⟩)), some (.int .i64 (p : Int)), some (.agg (zb 64 (eU))), some (.agg (zb 64 (gV))), some (.agg (zb 64 (rS))), none, none, none, none]) ?_ ?_ ?_
   · intro v hv0
     exact ⟨(Below.refl _ W4).drew, (fun h => by cases h), (fun h => by cases h), (fun h => by cases h), (fun h => by cases h), (fun h => by cases h), VF.start⟩
   · refine (.cons rfl ?_ (.cons rfl ?_ (.cons rfl ?_ (.cons rfl ?_ (.cons rfl ?_ (.cons rfl ?_ (.cons rfl ?_ (.cons rfl ?_ (.cons rfl ?_ (.cons rfl ?_ (.cons rfl ?_ (.cons rfl ?_ (.cons rfl ?_ (.cons rfl ?_ (.nil _)))))))))))))))
     all_goals intro L v W5 hd hn ⟨hY, h10, h11, h12, h13, d10_11, V⟩ K hK
     · go_wp2_with fail
       exact hK _ (.pointer (some ⟨w.heap.size, 0, none⟩)) _ (by simp only [Act.put, pA, pB, pC ]) ⟨hY, h10, h11, h12, h13, d10_11, V.step 0 rfl⟩
     · have e0 := V.at (zdq hd 0 rfl) rfl
       refine wp_load_rowc 2 _ rfl _ 0 e0 107 _ (B0.zw hY) (.int .i64 (p : Int)) (fdC_at _ _) _ Try.underlying2 rfl ?_
       exact hK _ _ _ rfl ⟨hY, h10, h11, h12, h13, d10_11, V.step 1 rfl⟩
     · refine zlc (B8.zw hY) Try.underlying23 Try.size23 ?_
       exact hK _ _ _ rfl ⟨hY, h10, h11, h12, h13, d10_11, V.step 2 rfl⟩
     · refine zlc (B5.zw hY) Try.underlying23 Try.size23 ?_
       exact hK _ _ _ rfl ⟨hY, h10, h11, h12, h13, d10_11, V.step 3 rfl⟩
     · have e1 := V.at (zdq hd 1 rfl) rfl
       have e2 := V.at (zdq hd 2 rfl) rfl
       have e3 := V.at (zdq hd 3 rfl) rfl
       go_wp2_with (go_at_call 94; refine (P1.out _).mono ?_; rintro e wy ⟨rfl, hy⟩)
       exact hK _ (.agg (zb 64 (rR))) _ (by simp only [Act.put, pA, pB, pC, e1, e2, e3]) ⟨hY.trans (hy.mono hY.size), (fun h => (h10 h).below hy), (fun h => (h11 h).below hy), (fun h => (h12 h).below hy), (fun h => (h13 h).below hy), d10_11, V.step 4 rfl⟩
     · go_wp2_with fail
       exact hK _ (.pointer (some ⟨w.heap.size, 0, none⟩)) _ (by simp only [Act.put, pA, pB, pC ]) ⟨hY, h10, h11, h12, h13, d10_11, V.step 5 rfl⟩
     · have e5 := V.at (zdq hd 5 rfl) rfl
       refine wp_load_rowc 2 _ rfl _ 0 e5 107 _ (B0.zw hY) (.int .i64 (p : Int)) (fdC_at _ _) _ Try.underlying2 rfl ?_
       exact hK _ _ _ rfl ⟨hY, h10, h11, h12, h13, d10_11, V.step 6 rfl⟩
     · refine zlc (B8.zw hY) Try.underlying23 Try.size23 ?_
       exact hK _ _ _ rfl ⟨hY, h10, h11, h12, h13, d10_11, V.step 7 rfl⟩
     · refine zlc (B6.zw hY) Try.underlying23 Try.size23 ?_
       exact hK _ _ _ rfl ⟨hY, h10, h11, h12, h13, d10_11, V.step 8 rfl⟩
     · have e6 := V.at (zdq hd 6 rfl) rfl
       have e7 := V.at (zdq hd 7 rfl) rfl
       have e8 := V.at (zdq hd 8 rfl) rfl
       go_wp2_with (go_at_call 94; refine (P2.out _).mono ?_; rintro e wy ⟨rfl, hy⟩)
       exact hK _ (.agg (zb 64 (rS))) _ (by simp only [Act.put, pA, pB, pC, e6, e7, e8]) ⟨hY.trans (hy.mono hY.size), (fun h => (h10 h).below hy), (fun h => (h11 h).below hy), (fun h => (h12 h).below hy), (fun h => (h13 h).below hy), d10_11, V.step 9 rfl⟩
     · go_wp2_with fail
       rw [← z64]
       exact hK _ (.pointer (some ⟨W5.heap.size, 0, none⟩)) _ (by simp only [Act.put, pA, pB, pC ]) ⟨hY.alloc hY.size _, (fun _ => (PF.new W5 64 23 _ hY.size).af), (fun h => (h11 h).below (zal _ _)), (fun h => absurd rfl (hn 12 _ rfl h ⟨10, .data⟩ (by simp) rfl)), (fun h => (h13 h).below (zal _ _)), (fun h g1 => Ne.symm ((h11 g1).ne_new)), V.skip 10 rfl⟩
     · go_wp2_with fail
       rw [← z64]
       exact hK _ (.pointer (some ⟨W5.heap.size, 0, none⟩)) _ (by simp only [Act.put, pA, pB, pC ]) ⟨hY.alloc hY.size _, (fun h => (h10 h).below (zal _ _)), (fun _ => (PF.new W5 64 23 _ hY.size).af), (fun h => (h12 h).below (zal _ _)), (fun h => absurd rfl (hn 13 _ rfl h ⟨11, .data⟩ (by simp) rfl)), (fun h g1 => (h10 h).ne_new), V.skip 11 rfl⟩
     · have e4 := V.at (zdq hd 4 rfl) rfl
       obtain ⟨gz, b, ea, hN, hk⟩ := (h10 (zdq hd 10 rfl)).out
       refine zsb 23 _ _ rfl b 64 (rR) ea e4 23 gz hk Try.size23 ?_
       exact hK _ undef _ rfl ⟨zr hY hN _, (fun h => (h10 h).row hk), (fun h => (h11 h).row hk), (fun _ => by rw [show updV v 12 undef 10 = v 10 from rfl, ea]; exact PF.row hk hN _), (fun h => (h13 h).rowOther (by rw [← ea]; exact (Ne.symm (d10_11 (zdq hd 10 rfl) (zdq hd 11 rfl))))), d10_11, V.skip 12 rfl⟩
     · have e9 := V.at (zdq hd 9 rfl) rfl
       obtain ⟨gz, b, ea, hN, hk⟩ := (h11 (zdq hd 11 rfl)).out
       refine zsb 23 _ _ rfl b 64 (rS) ea e9 23 gz hk Try.size23 ?_
       exact hK _ undef _ rfl ⟨zr hY hN _, (fun h => (h10 h).row hk), (fun h => (h11 h).row hk), (fun h => (h12 h).rowOther (by rw [← ea]; exact (d10_11 (zdq hd 10 rfl) (zdq hd 11 rfl)))), (fun _ => by rw [show updV v 13 undef 11 = v 11 from rfl, ea]; exact PF.row hk hN _), d10_11, V.skip 13 rfl⟩
   · intro L v W5 hL ⟨hY, h10, h11, h12, h13, d10_11, V⟩
     obtain ⟨k3_10, e10, hNk3_10, hk3_10⟩ := (h12 (hL 12 (by decide))).out
     obtain ⟨k3_11, e11, hNk3_11, hk3_11⟩ := (h13 (hL 13 (by decide))).out
     have n10_11 := d10_11 (hL 10 (by decide)) (hL 11 (by decide))
     have e0 := V.at (hL 0 (by decide)) rfl
     have e1 := V.at (hL 1 (by decide)) rfl
     have e2 := V.at (hL 2 (by decide)) rfl
     have e3 := V.at (hL 3 (by decide)) rfl
     have e4 := V.at (hL 4 (by decide)) rfl
     have e5 := V.at (hL 5 (by decide)) rfl
     have e6 := V.at (hL 6 (by decide)) rfl
     have e7 := V.at (hL 7 (by decide)) rfl
     have e8 := V.at (hL 8 (by decide)) rfl
     have e9 := V.at (hL 9 (by decide)) rfl
     clear hL h10 h11 h12 h13 d10_11 V
     replace B0 := B0.zw hY
     replace B1 := B1.zw hY
     replace B2 := B2.zw hY
     replace B3 := B3.zw hY
     replace B4 := B4.zw hY
     replace B5 := B5.zw hY
     replace B6 := B6.zw hY
     replace B7 := B7.zw hY
     replace B8 := B8.zw hY
     replace B9 := B9.zw hY
     replace hb := hb.trans (hY.mono hb.size)
     clear hY
     rw [e10, e11] at n10_11
     have mk3_10_11 : k3_10 ≠ k3_11 := fun h => n10_11 (by rw [h])
     clear n10_11
     simp only [Exit.then, e10, e11, e0, e1, e2, e3, e4, e5, e6, e7, e8, e9]
     clear e10 e11 e0 e1 e2 e3 e4 e5 e6 e7 e8 e9
     have B10 := hk3_10
     clear hk3_10
     have zk3_10_0 : w.heap.size < k3_10 := by omega
     have zk3_10_1 : w.heap.size + 1 < k3_10 := by omega
     have zk3_10_2 : w.heap.size + 1 + 1 < k3_10 := by omega
     have zk3_10_3 : w.heap.size + 1 + 1 + 1 < k3_10 := by omega
     have zk3_10_4 : N1 < k3_10 := by omega
     have zk3_10_5 : N1 + 1 < k3_10 := by omega
     have zk3_10_6 : N1 + 1 + 1 < k3_10 := by omega
     have zk3_10_7 : k2_15 < k3_10 := by omega
     have zk3_10_8 : k2_16 < k3_10 := by omega
     have zk3_10_9 : k2_17 < k3_10 := by omega
     have B11 := hk3_11
     clear hk3_11
     have zk3_11_0 : w.heap.size < k3_11 := by omega
     have zk3_11_1 : w.heap.size + 1 < k3_11 := by omega
     have zk3_11_2 : w.heap.size + 1 + 1 < k3_11 := by omega
     have zk3_11_3 : w.heap.size + 1 + 1 + 1 < k3_11 := by omega
     have zk3_11_4 : N1 < k3_11 := by omega
     have zk3_11_5 : N1 + 1 < k3_11 := by omega
     have zk3_11_6 : N1 + 1 + 1 < k3_11 := by omega
     have zk3_11_7 : k2_15 < k3_11 := by omega
     have zk3_11_8 : k2_16 < k3_11 := by omega
     have zk3_11_9 : k2_17 < k3_11 := by omega
     clear lt_B0 lt_B1 lt_B2 lt_B3 lt_B4 lt_B5 lt_B6 lt_B7 lt_B8 lt_B9
     go_upto_region 4 with (fail)
     have lt_B0 : (w.heap.size) < W5.heap.size := B0.lt
     have lt_B1 : (w.heap.size + 1) < W5.heap.size := B1.lt
     have lt_B2 : (w.heap.size + 1 + 1) < W5.heap.size := B2.lt
     have lt_B3 : (w.heap.size + 1 + 1 + 1) < W5.heap.size := B3.lt
     have lt_B4 : (N1) < W5.heap.size := B4.lt
     have lt_B5 : (N1 + 1) < W5.heap.size := B5.lt
     have lt_B6 : (N1 + 1 + 1) < W5.heap.size := B6.lt
     have lt_B7 : (k2_15) < W5.heap.size := B7.lt
     have lt_B8 : (k2_16) < W5.heap.size := B8.lt
     have lt_B9 : (k2_17) < W5.heap.size := B9.lt
     have lt_B10 : (k3_10) < W5.heap.size := B10.lt
     have lt_B11 : (k3_11) < W5.heap.size := B11.lt
     refine zq Try.mixed (by kernel_rfl) (by kernel_rfl) (fun v => by (simp only [frL, Act.put, pA, pB, pC, Nat.reduceAdd, Nat.zero_add]; exact rfl))
      (fun L v W6 => Below W5.heap.size W5 W6 ∧ (L 11 = true → AF (v 11) W6 W5.heap.size 64 23) ∧ (L 12 = true → PF (v 11) W6 W5.heap.size 64 23 (na)) ∧ VF L v [some (.pointer (some ⟨w.heap.size, 0, none⟩)), some (.int .i64 (p : Int)), some (.agg (zb 64 (rR))), some (.pointer (some ⟨w.heap.size, 0, none⟩)), some (.int .i64 (p : Int)), some (.pointer (some ⟨w.heap.size + 1, 0, none⟩)), some (.agg (zb 64 (X1))), some (.pointer (some ⟨w.heap.size + 1 + 1, 64, none⟩)), some (.agg (zb 64 (Y2))), some (.agg (zb 64 (ma))), some (.agg (zb 64 (na))), none, none]) ?_ ?_ ?_
     · intro v hv0
       exact ⟨(Below.refl _ W5).drew, (fun h => by cases h), (fun h => by cases h), VF.start⟩
     · refine (.cons rfl ?_ (.cons rfl ?_ (.cons rfl ?_ (.cons rfl ?_ (.cons rfl ?_ (.cons rfl ?_ (.cons rfl ?_ (.cons rfl ?_ (.cons rfl ?_ (.cons rfl ?_ (.cons rfl ?_ (.cons rfl ?_ (.cons rfl ?_ (.nil _))))))))))))))
       all_goals intro L v W6 hd hn ⟨hY, h11, h12, V⟩ K hK
       · go_wp2_with fail
         exact hK _ (.pointer (some ⟨w.heap.size, 0, none⟩)) _ (by simp only [Act.put, pA, pB, pC ]) ⟨hY, h11, h12, V.step 0 rfl⟩
       · have e0 := V.at (zdq hd 0 rfl) rfl
         refine wp_load_rowc 2 _ rfl _ 0 e0 107 _ (B0.zw hY) (.int .i64 (p : Int)) (fdC_at _ _) _ Try.underlying2 rfl ?_
         exact hK _ _ _ rfl ⟨hY, h11, h12, V.step 1 rfl⟩
       · refine zlc (B10.zw hY) Try.underlying23 Try.size23 ?_
         exact hK _ _ _ rfl ⟨hY, h11, h12, V.step 2 rfl⟩
       · go_wp2_with fail
         exact hK _ (.pointer (some ⟨w.heap.size, 0, none⟩)) _ (by simp only [Act.put, pA, pB, pC ]) ⟨hY, h11, h12, V.step 3 rfl⟩
       · have e3 := V.at (zdq hd 3 rfl) rfl
         refine wp_load_rowc 2 _ rfl _ 0 e3 107 _ (B0.zw hY) (.int .i64 (p : Int)) (fdC_at _ _) _ Try.underlying2 rfl ?_
         exact hK _ _ _ rfl ⟨hY, h11, h12, V.step 4 rfl⟩
       · go_wp2_with fail
         exact hK _ (.pointer (some ⟨w.heap.size + 1, 0, none⟩)) _ (by simp only [Act.put, pA, pB, pC ]) ⟨hY, h11, h12, V.step 5 rfl⟩
       · have e5 := V.at (zdq hd 5 rfl) rfl
         refine wp_load_mid 23 _ rfl _ 0 e5 _ _ ((B1.zw hY).fra) Try.underlying23 rfl (by rw [zl]; exact Try.size23) ?_
         exact hK _ _ _ rfl ⟨hY, h11, h12, V.step 6 rfl⟩
       · go_wp2_with fail
         exact hK _ (.pointer (some ⟨w.heap.size + 1 + 1, 64, none⟩)) _ (by simp only [Act.put, pA, pB, pC ]) ⟨hY, h11, h12, V.step 7 rfl⟩
       · have e7 := V.at (zdq hd 7 rfl) rfl
         refine wp_load_mid 23 _ rfl _ 64 e7 _ _ ((B2.zw hY).frb) Try.underlying23 rfl (by rw [zl]; exact Try.size23) ?_
         exact hK _ _ _ rfl ⟨hY, h11, h12, V.step 8 rfl⟩
       · have e4 := V.at (zdq hd 4 rfl) rfl
         have e6 := V.at (zdq hd 6 rfl) rfl
         have e8 := V.at (zdq hd 8 rfl) rfl
         go_wp2_with (go_at_call 94; refine (P3.out _).mono ?_; rintro e wy ⟨rfl, hy⟩)
         exact hK _ (.agg (zb 64 (ma))) _ (by simp only [Act.put, pA, pB, pC, e4, e6, e8]) ⟨hY.trans (hy.mono hY.size), (fun h => (h11 h).below hy), (fun h => (h12 h).below hy), V.step 9 rfl⟩
       · have e1 := V.at (zdq hd 1 rfl) rfl
         have e2 := V.at (zdq hd 2 rfl) rfl
         have e9 := V.at (zdq hd 9 rfl) rfl
         go_wp2_with (go_at_call 94; refine (P4.out _).mono ?_; rintro e wy ⟨rfl, hy⟩)
         exact hK _ (.agg (zb 64 (na))) _ (by simp only [Act.put, pA, pB, pC, e1, e2, e9]) ⟨hY.trans (hy.mono hY.size), (fun h => (h11 h).below hy), (fun h => (h12 h).below hy), V.step 10 rfl⟩
       · go_wp2_with fail
         rw [← z64]
         exact hK _ (.pointer (some ⟨W6.heap.size, 0, none⟩)) _ (by simp only [Act.put, pA, pB, pC ]) ⟨hY.alloc hY.size _, (fun _ => (PF.new W6 64 23 _ hY.size).af), (fun h => absurd rfl (hn 12 _ rfl h ⟨11, .data⟩ (by simp) rfl)), V.skip 11 rfl⟩
       · have e10 := V.at (zdq hd 10 rfl) rfl
         obtain ⟨gz, b, ea, hN, hk⟩ := (h11 (zdq hd 11 rfl)).out
         refine zsb 23 _ _ rfl b 64 (na) ea e10 23 gz hk Try.size23 ?_
         exact hK _ undef _ rfl ⟨zr hY hN _, (fun h => (h11 h).row hk), (fun _ => by rw [show updV v 12 undef 11 = v 11 from rfl, ea]; exact PF.row hk hN _), V.skip 12 rfl⟩
     · intro L v W6 hL ⟨hY, h11, h12, V⟩
       obtain ⟨k4_11, e11, hNk4_11, hk4_11⟩ := (h12 (hL 12 (by decide))).out
       have e0 := V.at (hL 0 (by decide)) rfl
       have e1 := V.at (hL 1 (by decide)) rfl
       have e2 := V.at (hL 2 (by decide)) rfl
       have e3 := V.at (hL 3 (by decide)) rfl
       have e4 := V.at (hL 4 (by decide)) rfl
       have e5 := V.at (hL 5 (by decide)) rfl
       have e6 := V.at (hL 6 (by decide)) rfl
       have e7 := V.at (hL 7 (by decide)) rfl
       have e8 := V.at (hL 8 (by decide)) rfl
       have e9 := V.at (hL 9 (by decide)) rfl
       have e10 := V.at (hL 10 (by decide)) rfl
       clear hL h11 h12 V
       replace B0 := B0.zw hY
       replace B1 := B1.zw hY
       replace B2 := B2.zw hY
       replace B3 := B3.zw hY
       replace B4 := B4.zw hY
       replace B5 := B5.zw hY
       replace B6 := B6.zw hY
       replace B7 := B7.zw hY
       replace B8 := B8.zw hY
       replace B9 := B9.zw hY
       replace B10 := B10.zw hY
       replace B11 := B11.zw hY
       replace hb := hb.trans (hY.mono hb.size)
       clear hY
       simp only [Exit.then, e11, e0, e1, e2, e3, e4, e5, e6, e7, e8, e9, e10]
       clear e11 e0 e1 e2 e3 e4 e5 e6 e7 e8 e9 e10
       have B12 := hk4_11
       clear hk4_11
       have zk4_11_0 : w.heap.size < k4_11 := by omega
       have zk4_11_1 : w.heap.size + 1 < k4_11 := by omega
       have zk4_11_2 : w.heap.size + 1 + 1 < k4_11 := by omega
       have zk4_11_3 : w.heap.size + 1 + 1 + 1 < k4_11 := by omega
       have zk4_11_4 : N1 < k4_11 := by omega
       have zk4_11_5 : N1 + 1 < k4_11 := by omega
       have zk4_11_6 : N1 + 1 + 1 < k4_11 := by omega
       have zk4_11_7 : k2_15 < k4_11 := by omega
       have zk4_11_8 : k2_16 < k4_11 := by omega
       have zk4_11_9 : k2_17 < k4_11 := by omega
       have zk4_11_10 : k3_10 < k4_11 := by omega
       have zk4_11_11 : k3_11 < k4_11 := by omega
       clear lt_B0 lt_B1 lt_B2 lt_B3 lt_B4 lt_B5 lt_B6 lt_B7 lt_B8 lt_B9 lt_B10 lt_B11
       go_upto_region 5 with (fail)
       have lt_B0 : (w.heap.size) < W6.heap.size := B0.lt
       have lt_B1 : (w.heap.size + 1) < W6.heap.size := B1.lt
       have lt_B2 : (w.heap.size + 1 + 1) < W6.heap.size := B2.lt
       have lt_B3 : (w.heap.size + 1 + 1 + 1) < W6.heap.size := B3.lt
       have lt_B4 : (N1) < W6.heap.size := B4.lt
       have lt_B5 : (N1 + 1) < W6.heap.size := B5.lt
       have lt_B6 : (N1 + 1 + 1) < W6.heap.size := B6.lt
       have lt_B7 : (k2_15) < W6.heap.size := B7.lt
       have lt_B8 : (k2_16) < W6.heap.size := B8.lt
       have lt_B9 : (k2_17) < W6.heap.size := B9.lt
       have lt_B10 : (k3_10) < W6.heap.size := B10.lt
       have lt_B11 : (k3_11) < W6.heap.size := B11.lt
       have lt_B12 : (k4_11) < W6.heap.size := B12.lt
       have hbase : w.heap.size ≤ W6.heap.size := hb.size
       refine zq Try.mixed (by kernel_rfl) (by kernel_rfl) (fun v => by (simp only [frL, Act.put, pA, pB, pC, Nat.reduceAdd, Nat.zero_add]; exact rfl))
        (fun L v W7 => Below w.heap.size w W7 ∧ Kx [k4_11] W6 W7 ∧ (∃ g, Blk W7 (k4_11) 64 23 (g)) ∧ (L 15 = false → Blk W7 (k4_11) 64 23 (na)) ∧ (L 15 = true → Blk W7 (k4_11) 64 23 (ka)) ∧ VF L v [some (.pointer (some ⟨w.heap.size, 0, none⟩)), some (.int .i64 (p : Int)), some (.agg (zb 64 (na))), some (.pointer (some ⟨w.heap.size, 0, none⟩)), some (.int .i64 (p : Int)), some (.agg (zb 64 (rS))), some (.pointer (some ⟨w.heap.size, 0, none⟩)), some (.int .i64 (p : Int)), some (.pointer (some ⟨w.heap.size + 1 + 1, 0, none⟩)), some (.agg (zb 64 (X2))), some (.pointer (some ⟨w.heap.size + 1, 64, none⟩)), some (.agg (zb 64 (Y1))), some (.agg (zb 64 (mb))), some (.agg (zb 64 (nb))), some (.agg (zb 64 (ka))), none]) ?_ ?_ ?_
       · intro v hv0
         exact ⟨hb.drew, Kx.start _ _, ⟨_, B12.drew⟩, (fun _ => B12.drew), (fun h => by cases h), VF.start⟩
       · refine (.cons rfl ?_ (.cons rfl ?_ (.cons rfl ?_ (.cons rfl ?_ (.cons rfl ?_ (.cons rfl ?_ (.cons rfl ?_ (.cons rfl ?_ (.cons rfl ?_ (.cons rfl ?_ (.cons rfl ?_ (.cons rfl ?_ (.cons rfl ?_ (.cons rfl ?_ (.cons rfl ?_ (.cons rfl ?_ (.nil _)))))))))))))))))
         all_goals intro L v W7 hd hn ⟨hB, hX, x12, q12, n12, V⟩ K hK
         · go_wp2_with fail
           exact hK _ (.pointer (some ⟨w.heap.size, 0, none⟩)) _ (by simp only [Act.put, pA, pB, pC ]) ⟨hB, hX, x12, q12, n12, V.step 0 rfl⟩
         · have e0 := V.at (zdq hd 0 rfl) rfl
           refine wp_load_rowc 2 _ rfl _ 0 e0 107 _ (B0.kx hX (by simp <;> omega)) (.int .i64 (p : Int)) (fdC_at _ _) _ Try.underlying2 rfl ?_
           exact hK _ _ _ rfl ⟨hB, hX, x12, q12, n12, V.step 1 rfl⟩
         · have s12 := q12 (by
            cases hL : L 15 with
            | false => rfl
            | true => exact absurd rfl (hn 15 _ rfl hL ⟨2, .phase⟩ (by simp) rfl))
           refine zlc s12 Try.underlying23 Try.size23 ?_
           exact hK _ _ _ rfl ⟨hB, hX, x12, q12, n12, V.step 2 rfl⟩
         · go_wp2_with fail
           exact hK _ (.pointer (some ⟨w.heap.size, 0, none⟩)) _ (by simp only [Act.put, pA, pB, pC ]) ⟨hB, hX, x12, q12, n12, V.step 3 rfl⟩
         · have e3 := V.at (zdq hd 3 rfl) rfl
           refine wp_load_rowc 2 _ rfl _ 0 e3 107 _ (B0.kx hX (by simp <;> omega)) (.int .i64 (p : Int)) (fdC_at _ _) _ Try.underlying2 rfl ?_
           exact hK _ _ _ rfl ⟨hB, hX, x12, q12, n12, V.step 4 rfl⟩
         · refine wp_load_any 23 _ rfl _ rfl 64 23 _ (B11.kx hX (by simp <;> omega)) _ Try.underlying23 rfl Try.size23 ?_
           exact hK _ _ _ rfl ⟨hB, hX, x12, q12, n12, V.step 5 rfl⟩
         · go_wp2_with fail
           exact hK _ (.pointer (some ⟨w.heap.size, 0, none⟩)) _ (by simp only [Act.put, pA, pB, pC ]) ⟨hB, hX, x12, q12, n12, V.step 6 rfl⟩
         · have e6 := V.at (zdq hd 6 rfl) rfl
           refine wp_load_rowc 2 _ rfl _ 0 e6 107 _ (B0.kx hX (by simp <;> omega)) (.int .i64 (p : Int)) (fdC_at _ _) _ Try.underlying2 rfl ?_
           exact hK _ _ _ rfl ⟨hB, hX, x12, q12, n12, V.step 7 rfl⟩
         · go_wp2_with fail
           exact hK _ (.pointer (some ⟨w.heap.size + 1 + 1, 0, none⟩)) _ (by simp only [Act.put, pA, pB, pC ]) ⟨hB, hX, x12, q12, n12, V.step 8 rfl⟩
         · have e8 := V.at (zdq hd 8 rfl) rfl
           refine wp_load_mid 23 _ rfl _ 0 e8 _ _ ((B2.kx hX (by simp <;> omega)).fra) Try.underlying23 rfl (by rw [zl]; exact Try.size23) ?_
           exact hK _ _ _ rfl ⟨hB, hX, x12, q12, n12, V.step 9 rfl⟩
         · go_wp2_with fail
           exact hK _ (.pointer (some ⟨w.heap.size + 1, 64, none⟩)) _ (by simp only [Act.put, pA, pB, pC ]) ⟨hB, hX, x12, q12, n12, V.step 10 rfl⟩
         · have e10 := V.at (zdq hd 10 rfl) rfl
           refine wp_load_mid 23 _ rfl _ 64 e10 _ _ ((B1.kx hX (by simp <;> omega)).frb) Try.underlying23 rfl (by rw [zl]; exact Try.size23) ?_
           exact hK _ _ _ rfl ⟨hB, hX, x12, q12, n12, V.step 11 rfl⟩
         · have e7 := V.at (zdq hd 7 rfl) rfl
           have e9 := V.at (zdq hd 9 rfl) rfl
           have e11 := V.at (zdq hd 11 rfl) rfl
           go_wp2_with (go_at_call 94; refine (P5.out _).mono ?_; rintro e wy ⟨rfl, hy⟩)
           exact hK _ (.agg (zb 64 (mb))) _ (by simp only [Act.put, pA, pB, pC, e7, e9, e11]) ⟨hB.trans (hy.mono hB.size), hX.below hy, (let ⟨g, h⟩ := x12; ⟨g, h.zw hy⟩), (fun h => (q12 h).below hy (q12 h).lt), (fun h => (n12 h).below hy (n12 h).lt), V.step 12 rfl⟩
         · have e4 := V.at (zdq hd 4 rfl) rfl
           have e5 := V.at (zdq hd 5 rfl) rfl
           have e12 := V.at (zdq hd 12 rfl) rfl
           go_wp2_with (go_at_call 94; refine (P6.out _).mono ?_; rintro e wy ⟨rfl, hy⟩)
           exact hK _ (.agg (zb 64 (nb))) _ (by simp only [Act.put, pA, pB, pC, e4, e5, e12]) ⟨hB.trans (hy.mono hB.size), hX.below hy, (let ⟨g, h⟩ := x12; ⟨g, h.zw hy⟩), (fun h => (q12 h).below hy (q12 h).lt), (fun h => (n12 h).below hy (n12 h).lt), V.step 13 rfl⟩
         · have e1 := V.at (zdq hd 1 rfl) rfl
           have e2 := V.at (zdq hd 2 rfl) rfl
           have e13 := V.at (zdq hd 13 rfl) rfl
           go_wp2_with (go_at_call 173; refine (S2.out _).mono ?_; rintro e wy ⟨rfl, hy⟩)
           exact hK _ (.agg (zb 64 (ka))) _ (by simp only [Act.put, pA, pB, pC, e1, e2, e13]) ⟨hB.trans (hy.mono hB.size), hX.below hy, (let ⟨g, h⟩ := x12; ⟨g, h.zw hy⟩), (fun h => (q12 h).below hy (q12 h).lt), (fun h => (n12 h).below hy (n12 h).lt), V.step 14 rfl⟩
         · have e14 := V.at (zdq hd 14 rfl) rfl
           obtain ⟨gz, hk⟩ := x12
           refine zsb 23 _ _ rfl _ 64 (ka) rfl e14 23 gz hk Try.size23 ?_
           exact hK _ undef _ rfl ⟨zr hB (by omega) _, hX.row (by simp) _, ⟨_, hk.row _⟩, (fun h => absurd h (by simp [setL])), (fun _ => hk.row _), V.skip 15 rfl⟩
       · intro L v W7 hL ⟨hB, hX, x12, q12, n12, V⟩
         have r12 := n12 (hL 15 (by decide))
         have e0 := V.at (hL 0 (by decide)) rfl
         have e1 := V.at (hL 1 (by decide)) rfl
         have e2 := V.at (hL 2 (by decide)) rfl
         have e3 := V.at (hL 3 (by decide)) rfl
         have e4 := V.at (hL 4 (by decide)) rfl
         have e5 := V.at (hL 5 (by decide)) rfl
         have e6 := V.at (hL 6 (by decide)) rfl
         have e7 := V.at (hL 7 (by decide)) rfl
         have e8 := V.at (hL 8 (by decide)) rfl
         have e9 := V.at (hL 9 (by decide)) rfl
         have e10 := V.at (hL 10 (by decide)) rfl
         have e11 := V.at (hL 11 (by decide)) rfl
         have e12 := V.at (hL 12 (by decide)) rfl
         have e13 := V.at (hL 13 (by decide)) rfl
         have e14 := V.at (hL 14 (by decide)) rfl
         clear hL x12 q12 n12 V
         replace B0 := B0.kx hX (by simp <;> omega)
         replace B1 := B1.kx hX (by simp <;> omega)
         replace B2 := B2.kx hX (by simp <;> omega)
         replace B3 := B3.kx hX (by simp <;> omega)
         replace B4 := B4.kx hX (by simp <;> omega)
         replace B5 := B5.kx hX (by simp <;> omega)
         replace B6 := B6.kx hX (by simp <;> omega)
         replace B7 := B7.kx hX (by simp <;> omega)
         replace B8 := B8.kx hX (by simp <;> omega)
         replace B9 := B9.kx hX (by simp <;> omega)
         replace B10 := B10.kx hX (by simp <;> omega)
         replace B11 := B11.kx hX (by simp <;> omega)
         clear hX
         simp only [Exit.then, e0, e1, e2, e3, e4, e5, e6, e7, e8, e9, e10, e11, e12, e13, e14]
         clear e0 e1 e2 e3 e4 e5 e6 e7 e8 e9 e10 e11 e12 e13 e14
         replace B12 := r12
         clear r12
         replace hb := hB
         clear hB
         clear hbase lt_B0 lt_B1 lt_B2 lt_B3 lt_B4 lt_B5 lt_B6 lt_B7 lt_B8 lt_B9 lt_B10 lt_B11 lt_B12
         go_upto_region 6 with (fail)
         have lt_B0 : (w.heap.size) < W7.heap.size := B0.lt
         have lt_B1 : (w.heap.size + 1) < W7.heap.size := B1.lt
         have lt_B2 : (w.heap.size + 1 + 1) < W7.heap.size := B2.lt
         have lt_B3 : (w.heap.size + 1 + 1 + 1) < W7.heap.size := B3.lt
         have lt_B4 : (N1) < W7.heap.size := B4.lt
         have lt_B5 : (N1 + 1) < W7.heap.size := B5.lt
         have lt_B6 : (N1 + 1 + 1) < W7.heap.size := B6.lt
         have lt_B7 : (k2_15) < W7.heap.size := B7.lt
         have lt_B8 : (k2_16) < W7.heap.size := B8.lt
         have lt_B9 : (k2_17) < W7.heap.size := B9.lt
         have lt_B10 : (k3_10) < W7.heap.size := B10.lt
         have lt_B11 : (k3_11) < W7.heap.size := B11.lt
         have lt_B12 : (k4_11) < W7.heap.size := B12.lt
         have hbase : w.heap.size ≤ W7.heap.size := hb.size
         refine zq Try.mixed (by kernel_rfl) (by kernel_rfl) (fun v => by (simp only [frL, Act.put, pA, pB, pC, Nat.reduceAdd, Nat.zero_add]; exact rfl))
          (fun L v W8 => Below w.heap.size w W8 ∧ Kx [k4_11] W7 W8 ∧ (∃ g, Blk W8 (k4_11) 64 23 (g)) ∧ (L 20 = false → Blk W8 (k4_11) 64 23 (ka)) ∧ (L 20 = true → Blk W8 (k4_11) 64 23 (kb)) ∧ VF L v [some (.pointer (some ⟨w.heap.size, 0, none⟩)), some (.int .i64 (p : Int)), some (.agg (zb 64 (ka))), some (.pointer (some ⟨w.heap.size, 0, none⟩)), some (.int .i64 (p : Int)), some (.agg (zb 64 (eV))), some (.pointer (some ⟨w.heap.size, 0, none⟩)), some (.int .i64 (p : Int)), some (.pointer (some ⟨w.heap.size, 0, none⟩)), some (.int .i64 (p : Int)), some (.pointer (some ⟨w.heap.size + 1, 64, none⟩)), some (.agg (zb 64 (Y1))), some (.pointer (some ⟨w.heap.size + 1 + 1, 64, none⟩)), some (.agg (zb 64 (Y2))), some (.agg (zb 64 (mc))), some (.pointer (some ⟨w.heap.size, 1, none⟩)), some (.agg (zb 64 (D))), some (.agg (zb 64 (md))), some (.agg (zb 64 (nc))), some (.agg (zb 64 (kb))), none]) ?_ ?_ ?_
         · intro v hv0
           exact ⟨hb.drew, Kx.start _ _, ⟨_, B12.drew⟩, (fun _ => B12.drew), (fun h => by cases h), VF.start⟩
         · refine (.cons rfl ?_ (.cons rfl ?_ (.cons rfl ?_ (.cons rfl ?_ (.cons rfl ?_ (.cons rfl ?_ (.cons rfl ?_ (.cons rfl ?_ (.cons rfl ?_ (.cons rfl ?_ (.cons rfl ?_ (.cons rfl ?_ (.cons rfl ?_ (.cons rfl ?_ (.cons rfl ?_ (.cons rfl ?_ (.cons rfl ?_ (.cons rfl ?_ (.cons rfl ?_ (.cons rfl ?_ (.cons rfl ?_ (.nil _))))))))))))))))))))))
           all_goals intro L v W8 hd hn ⟨hB, hX, x12, q12, n12, V⟩ K hK
           · go_wp2_with fail
             exact hK _ (.pointer (some ⟨w.heap.size, 0, none⟩)) _ (by simp only [Act.put, pA, pB, pC ]) ⟨hB, hX, x12, q12, n12, V.step 0 rfl⟩
           · have e0 := V.at (zdq hd 0 rfl) rfl
             refine wp_load_rowc 2 _ rfl _ 0 e0 107 _ (B0.kx hX (by simp <;> omega)) (.int .i64 (p : Int)) (fdC_at _ _) _ Try.underlying2 rfl ?_
             exact hK _ _ _ rfl ⟨hB, hX, x12, q12, n12, V.step 1 rfl⟩
           · have s12 := q12 (by
              cases hL : L 20 with
              | false => rfl
              | true => exact absurd rfl (hn 20 _ rfl hL ⟨2, .phase⟩ (by simp) rfl))
             refine zlc s12 Try.underlying23 Try.size23 ?_
             exact hK _ _ _ rfl ⟨hB, hX, x12, q12, n12, V.step 2 rfl⟩
           · go_wp2_with fail
             exact hK _ (.pointer (some ⟨w.heap.size, 0, none⟩)) _ (by simp only [Act.put, pA, pB, pC ]) ⟨hB, hX, x12, q12, n12, V.step 3 rfl⟩
           · have e3 := V.at (zdq hd 3 rfl) rfl
             refine wp_load_rowc 2 _ rfl _ 0 e3 107 _ (B0.kx hX (by simp <;> omega)) (.int .i64 (p : Int)) (fdC_at _ _) _ Try.underlying2 rfl ?_
             exact hK _ _ _ rfl ⟨hB, hX, x12, q12, n12, V.step 4 rfl⟩
           · refine wp_load_any 23 _ rfl _ rfl 64 23 _ (B9.kx hX (by simp <;> omega)) _ Try.underlying23 rfl Try.size23 ?_
             exact hK _ _ _ rfl ⟨hB, hX, x12, q12, n12, V.step 5 rfl⟩
           · go_wp2_with fail
             exact hK _ (.pointer (some ⟨w.heap.size, 0, none⟩)) _ (by simp only [Act.put, pA, pB, pC ]) ⟨hB, hX, x12, q12, n12, V.step 6 rfl⟩
           · have e6 := V.at (zdq hd 6 rfl) rfl
             refine wp_load_rowc 2 _ rfl _ 0 e6 107 _ (B0.kx hX (by simp <;> omega)) (.int .i64 (p : Int)) (fdC_at _ _) _ Try.underlying2 rfl ?_
             exact hK _ _ _ rfl ⟨hB, hX, x12, q12, n12, V.step 7 rfl⟩
           · go_wp2_with fail
             exact hK _ (.pointer (some ⟨w.heap.size, 0, none⟩)) _ (by simp only [Act.put, pA, pB, pC ]) ⟨hB, hX, x12, q12, n12, V.step 8 rfl⟩
           · have e8 := V.at (zdq hd 8 rfl) rfl
             refine wp_load_rowc 2 _ rfl _ 0 e8 107 _ (B0.kx hX (by simp <;> omega)) (.int .i64 (p : Int)) (fdC_at _ _) _ Try.underlying2 rfl ?_
             exact hK _ _ _ rfl ⟨hB, hX, x12, q12, n12, V.step 9 rfl⟩
           · go_wp2_with fail
             exact hK _ (.pointer (some ⟨w.heap.size + 1, 64, none⟩)) _ (by simp only [Act.put, pA, pB, pC ]) ⟨hB, hX, x12, q12, n12, V.step 10 rfl⟩
           · have e10 := V.at (zdq hd 10 rfl) rfl
             refine wp_load_mid 23 _ rfl _ 64 e10 _ _ ((B1.kx hX (by simp <;> omega)).frb) Try.underlying23 rfl (by rw [zl]; exact Try.size23) ?_
             exact hK _ _ _ rfl ⟨hB, hX, x12, q12, n12, V.step 11 rfl⟩
           · go_wp2_with fail
             exact hK _ (.pointer (some ⟨w.heap.size + 1 + 1, 64, none⟩)) _ (by simp only [Act.put, pA, pB, pC ]) ⟨hB, hX, x12, q12, n12, V.step 12 rfl⟩
           · have e12 := V.at (zdq hd 12 rfl) rfl
             refine wp_load_mid 23 _ rfl _ 64 e12 _ _ ((B2.kx hX (by simp <;> omega)).frb) Try.underlying23 rfl (by rw [zl]; exact Try.size23) ?_
             exact hK _ _ _ rfl ⟨hB, hX, x12, q12, n12, V.step 13 rfl⟩
           · have e9 := V.at (zdq hd 9 rfl) rfl
             have e11 := V.at (zdq hd 11 rfl) rfl
             have e13 := V.at (zdq hd 13 rfl) rfl
             go_wp2_with (go_at_call 94; refine (P7.out _).mono ?_; rintro e wy ⟨rfl, hy⟩)
             exact hK _ (.agg (zb 64 (mc))) _ (by simp only [Act.put, pA, pB, pC, e9, e11, e13]) ⟨hB.trans (hy.mono hB.size), hX.below hy, (let ⟨g, h⟩ := x12; ⟨g, h.zw hy⟩), (fun h => (q12 h).below hy (q12 h).lt), (fun h => (n12 h).below hy (n12 h).lt), V.step 14 rfl⟩
           · go_wp2_with fail
             exact hK _ (.pointer (some ⟨w.heap.size, 1, none⟩)) _ (by simp only [Act.put, pA, pB, pC ]) ⟨hB, hX, x12, q12, n12, V.step 15 rfl⟩
           · have e15 := V.at (zdq hd 15 rfl) rfl
             refine wp_load_mid 23 _ rfl _ 1 e15 _ _ ((B0.kx hX (by simp <;> omega)).fd) Try.underlying23 rfl (by rw [zl]; exact Try.size23) ?_
             exact hK _ _ _ rfl ⟨hB, hX, x12, q12, n12, V.step 16 rfl⟩
           · have e7 := V.at (zdq hd 7 rfl) rfl
             have e14 := V.at (zdq hd 14 rfl) rfl
             have e16 := V.at (zdq hd 16 rfl) rfl
             go_wp2_with (go_at_call 173; refine (S3.out _).mono ?_; rintro e wy ⟨rfl, hy⟩)
             exact hK _ (.agg (zb 64 (md))) _ (by simp only [Act.put, pA, pB, pC, e7, e14, e16]) ⟨hB.trans (hy.mono hB.size), hX.below hy, (let ⟨g, h⟩ := x12; ⟨g, h.zw hy⟩), (fun h => (q12 h).below hy (q12 h).lt), (fun h => (n12 h).below hy (n12 h).lt), V.step 17 rfl⟩
           · have e4 := V.at (zdq hd 4 rfl) rfl
             have e5 := V.at (zdq hd 5 rfl) rfl
             have e17 := V.at (zdq hd 17 rfl) rfl
             go_wp2_with (go_at_call 94; refine (P8.out _).mono ?_; rintro e wy ⟨rfl, hy⟩)
             exact hK _ (.agg (zb 64 (nc))) _ (by simp only [Act.put, pA, pB, pC, e4, e5, e17]) ⟨hB.trans (hy.mono hB.size), hX.below hy, (let ⟨g, h⟩ := x12; ⟨g, h.zw hy⟩), (fun h => (q12 h).below hy (q12 h).lt), (fun h => (n12 h).below hy (n12 h).lt), V.step 18 rfl⟩
           · have e1 := V.at (zdq hd 1 rfl) rfl
             have e2 := V.at (zdq hd 2 rfl) rfl
             have e18 := V.at (zdq hd 18 rfl) rfl
             go_wp2_with (go_at_call 173; refine (S4.out _).mono ?_; rintro e wy ⟨rfl, hy⟩)
             exact hK _ (.agg (zb 64 (kb))) _ (by simp only [Act.put, pA, pB, pC, e1, e2, e18]) ⟨hB.trans (hy.mono hB.size), hX.below hy, (let ⟨g, h⟩ := x12; ⟨g, h.zw hy⟩), (fun h => (q12 h).below hy (q12 h).lt), (fun h => (n12 h).below hy (n12 h).lt), V.step 19 rfl⟩
           · have e19 := V.at (zdq hd 19 rfl) rfl
             obtain ⟨gz, hk⟩ := x12
             refine zsb 23 _ _ rfl _ 64 (kb) rfl e19 23 gz hk Try.size23 ?_
             exact hK _ undef _ rfl ⟨zr hB (by omega) _, hX.row (by simp) _, ⟨_, hk.row _⟩, (fun h => absurd h (by simp [setL])), (fun _ => hk.row _), V.skip 20 rfl⟩
         · intro L v W8 hL ⟨hB, hX, x12, q12, n12, V⟩
           have r12 := n12 (hL 20 (by decide))
           have e0 := V.at (hL 0 (by decide)) rfl
           have e1 := V.at (hL 1 (by decide)) rfl
           have e2 := V.at (hL 2 (by decide)) rfl
           have e3 := V.at (hL 3 (by decide)) rfl
           have e4 := V.at (hL 4 (by decide)) rfl
           have e5 := V.at (hL 5 (by decide)) rfl
           have e6 := V.at (hL 6 (by decide)) rfl
           have e7 := V.at (hL 7 (by decide)) rfl
           have e8 := V.at (hL 8 (by decide)) rfl
           have e9 := V.at (hL 9 (by decide)) rfl
           have e10 := V.at (hL 10 (by decide)) rfl
           have e11 := V.at (hL 11 (by decide)) rfl
           have e12 := V.at (hL 12 (by decide)) rfl
           have e13 := V.at (hL 13 (by decide)) rfl
           have e14 := V.at (hL 14 (by decide)) rfl
           have e15 := V.at (hL 15 (by decide)) rfl
           have e16 := V.at (hL 16 (by decide)) rfl
           have e17 := V.at (hL 17 (by decide)) rfl
           have e18 := V.at (hL 18 (by decide)) rfl
           have e19 := V.at (hL 19 (by decide)) rfl
           clear hL x12 q12 n12 V
           replace B0 := B0.kx hX (by simp <;> omega)
           replace B1 := B1.kx hX (by simp <;> omega)
           replace B2 := B2.kx hX (by simp <;> omega)
           replace B3 := B3.kx hX (by simp <;> omega)
           replace B4 := B4.kx hX (by simp <;> omega)
           replace B5 := B5.kx hX (by simp <;> omega)
           replace B6 := B6.kx hX (by simp <;> omega)
           replace B7 := B7.kx hX (by simp <;> omega)
           replace B8 := B8.kx hX (by simp <;> omega)
           replace B9 := B9.kx hX (by simp <;> omega)
           replace B10 := B10.kx hX (by simp <;> omega)
           replace B11 := B11.kx hX (by simp <;> omega)
           clear hX
           simp only [Exit.then, e0, e1, e2, e3, e4, e5, e6, e7, e8, e9, e10, e11, e12, e13, e14, e15, e16, e17, e18, e19]
           clear e0 e1 e2 e3 e4 e5 e6 e7 e8 e9 e10 e11 e12 e13 e14 e15 e16 e17 e18 e19
           replace B12 := r12
           clear r12
           replace hb := hB
           clear hB
           clear hbase lt_B0 lt_B1 lt_B2 lt_B3 lt_B4 lt_B5 lt_B6 lt_B7 lt_B8 lt_B9 lt_B10 lt_B11 lt_B12
           go_upto_region 7 with (fail)
           have lt_B0 := B0.lt
           have lt_B1 := B1.lt
           have lt_B2 := B2.lt
           have lt_B3 := B3.lt
           have lt_B4 := B4.lt
           have lt_B5 := B5.lt
           have lt_B6 := B6.lt
           have lt_B7 := B7.lt
           have lt_B8 := B8.lt
           have lt_B9 := B9.lt
           have lt_B10 := B10.lt
           have lt_B11 := B11.lt
           have lt_B12 := B12.lt
           go_upto_region 8 with (first | rw [← z64] | (refine wpList_load_rowc rfl 2 (.tmp 101) rfl _ 0 rfl 107 _ (B0) (.int .i64 (p : Int)) (fdC_at _ _) _ Try.underlying2 rfl ?_) | (refine zla (.tmp 15) B12 Try.underlying23 Try.size23 ?_) | (refine zla (.tmp 10) B7 Try.underlying23 Try.size23 ?_) | (go_at_call 167; refine (Q1.out _).mono ?_; rintro e W9 ⟨rfl, hW9⟩; replace B0 := B0.zw hW9; replace B1 := B1.zw hW9; replace B2 := B2.zw hW9; replace B3 := B3.zw hW9; replace B4 := B4.zw hW9; replace B5 := B5.zw hW9; replace B6 := B6.zw hW9; replace B7 := B7.zw hW9; replace B8 := B8.zw hW9; replace B9 := B9.zw hW9; replace B10 := B10.zw hW9; replace B11 := B11.zw hW9; replace B12 := B12.zw hW9; replace hb := (hb).trans (hW9.mono (hb).size)) | (refine zsr (.tmp 15) (.tmp 106) (Qq) B12 Try.size23 ?_; try simp only [Act.put]))
           obtain ⟨W10, hwo, hzQ⟩ : ∃ v : World, v = (W9.setRow (k4_11) (zb 64 (Qq))) ∧ Row v (w.heap.size) 107 (fdC (p : Int) D).toArray ∧ Row v (w.heap.size + 1) 55 (frC X1 Y1).toArray ∧ Row v (w.heap.size + 1 + 1) 55 (frC X2 Y2).toArray ∧ Row v (w.heap.size + 1 + 1 + 1) 55 (frC (fun _ => 0) (fun _ => 0)).toArray ∧ Blk v (N1) 64 23 (gD) ∧ Blk v (N1 + 1) 64 23 (gU) ∧ Blk v (N1 + 1 + 1) 64 23 (gV) ∧ Blk v (k2_15) 64 23 (eD) ∧ Blk v (k2_16) 64 23 (eU) ∧ Blk v (k2_17) 64 23 (eV) ∧ Blk v (k3_10) 64 23 (rR) ∧ Blk v (k3_11) 64 23 (rS) ∧ Blk v (k4_11) 64 23 (Qq) ∧ Below w.heap.size w v := ⟨_, rfl, (B0.rowOther (by omega)), (B1.rowOther (by omega)), (B2.rowOther (by omega)), (B3.rowOther (by omega)), (B4.rowOther (by omega)), (B5.rowOther (by omega)), (B6.rowOther (by omega)), (B7.rowOther (by omega)), (B8.rowOther (by omega)), (B9.rowOther (by omega)), (B10.rowOther (by omega)), (B11.rowOther (by omega)), (B12.row (Qq)), (zr hb (by omega) _)⟩
           rw [← hwo]
           clear hwo B0 B1 B10 B11 B12 B2 B3 B4 B5 B6 B7 B8 B9 hb
           obtain ⟨B0, B1, B2, B3, B4, B5, B6, B7, B8, B9, B10, B11, B12, hb⟩ := hzQ
           try simp only [Act.put, pA, pB, pC]
           have lt_B0 : (w.heap.size) < W10.heap.size := B0.lt
           have lt_B1 : (w.heap.size + 1) < W10.heap.size := B1.lt
           have lt_B2 : (w.heap.size + 1 + 1) < W10.heap.size := B2.lt
           have lt_B3 : (w.heap.size + 1 + 1 + 1) < W10.heap.size := B3.lt
           have lt_B4 : (N1) < W10.heap.size := B4.lt
           have lt_B5 : (N1 + 1) < W10.heap.size := B5.lt
           have lt_B6 : (N1 + 1 + 1) < W10.heap.size := B6.lt
           have lt_B7 : (k2_15) < W10.heap.size := B7.lt
           have lt_B8 : (k2_16) < W10.heap.size := B8.lt
           have lt_B9 : (k2_17) < W10.heap.size := B9.lt
           have lt_B10 : (k3_10) < W10.heap.size := B10.lt
           have lt_B11 : (k3_11) < W10.heap.size := B11.lt
           have lt_B12 : (k4_11) < W10.heap.size := B12.lt
           refine zq Try.mixed (by kernel_rfl) (by kernel_rfl) (fun v => by (simp only [frL, Act.put, pA, pB, pC, Nat.reduceAdd, Nat.zero_add]; exact rfl))
            (fun L v W11 => Below W10.heap.size W10 W11 ∧ (L 18 = true → AF (v 18) W11 W10.heap.size 64 23) ∧ (L 19 = true → AF (v 19) W11 W10.heap.size 64 23) ∧ (L 20 = true → PF (v 18) W11 W10.heap.size 64 23 (Ac)) ∧ (L 21 = true → PF (v 19) W11 W10.heap.size 64 23 (resP p Aa Ee)) ∧ (L 18 = true → L 19 = true → v 18 ≠ v 19) ∧ VF L v [some (.pointer (some ⟨w.heap.size, 0, none⟩)), some (.int .i64 (p : Int)), some (.pointer (some ⟨w.heap.size, 0, none⟩)), some (.int .i64 (p : Int)), some (.pointer (some ⟨w.heap.size + 1, 0, none⟩)), some (.agg (zb 64 (X1))), some (.pointer (some ⟨w.heap.size + 1 + 1, 0, none⟩)), some (.agg (zb 64 (X2))), some (.agg (zb 64 (Aa))), some (.pointer (some ⟨w.heap.size, 0, none⟩)), some (.int .i64 (p : Int)), some (.agg (zb 64 (eD))), some (.agg (zb 64 (eD))), some (.agg (zb 64 (Ee))), some (.tuple #[(.agg (zb 64 (Ac))), (.agg (zb 64 (resP p Aa Ee)))]), some (.tuple #[(.agg (zb 64 (Ac))), (.agg (zb 64 (resP p Aa Ee)))]), some (.agg (zb 64 (Ac))), some (.agg (zb 64 (resP p Aa Ee))), none, none, none, none]) ?_ ?_ ?_
           · intro v hv0
             exact ⟨(Below.refl _ W10).drew, (fun h => by cases h), (fun h => by cases h), (fun h => by cases h), (fun h => by cases h), (fun h => by cases h), VF.start⟩
           · refine (.cons rfl ?_ (.cons rfl ?_ (.cons rfl ?_ (.cons rfl ?_ (.cons rfl ?_ (.cons rfl ?_ (.cons rfl ?_ (.cons rfl ?_ (.cons rfl ?_ (.cons rfl ?_ (.cons rfl ?_ (.cons rfl ?_ (.cons rfl ?_ (.cons rfl ?_ (.cons rfl ?_ (.cons rfl ?_ (.cons rfl ?_ (.cons rfl ?_ (.cons rfl ?_ (.cons rfl ?_ (.cons rfl ?_ (.cons rfl ?_ (.nil _)))))))))))))))))))))))
             all_goals intro L v W11 hd hn ⟨hY, h18, h19, h20, h21, d18_19, V⟩ K hK
             · go_wp2_with fail
               exact hK _ (.pointer (some ⟨w.heap.size, 0, none⟩)) _ (by simp only [Act.put, pA, pB, pC ]) ⟨hY, h18, h19, h20, h21, d18_19, V.step 0 rfl⟩
             · have e0 := V.at (zdq hd 0 rfl) rfl
               refine wp_load_rowc 2 _ rfl _ 0 e0 107 _ (B0.zw hY) (.int .i64 (p : Int)) (fdC_at _ _) _ Try.underlying2 rfl ?_
               exact hK _ _ _ rfl ⟨hY, h18, h19, h20, h21, d18_19, V.step 1 rfl⟩
             · go_wp2_with fail
               exact hK _ (.pointer (some ⟨w.heap.size, 0, none⟩)) _ (by simp only [Act.put, pA, pB, pC ]) ⟨hY, h18, h19, h20, h21, d18_19, V.step 2 rfl⟩
             · have e2 := V.at (zdq hd 2 rfl) rfl
               refine wp_load_rowc 2 _ rfl _ 0 e2 107 _ (B0.zw hY) (.int .i64 (p : Int)) (fdC_at _ _) _ Try.underlying2 rfl ?_
               exact hK _ _ _ rfl ⟨hY, h18, h19, h20, h21, d18_19, V.step 3 rfl⟩
             · go_wp2_with fail
               exact hK _ (.pointer (some ⟨w.heap.size + 1, 0, none⟩)) _ (by simp only [Act.put, pA, pB, pC ]) ⟨hY, h18, h19, h20, h21, d18_19, V.step 4 rfl⟩
             · have e4 := V.at (zdq hd 4 rfl) rfl
               refine wp_load_mid 23 _ rfl _ 0 e4 _ _ ((B1.zw hY).fra) Try.underlying23 rfl (by rw [zl]; exact Try.size23) ?_
               exact hK _ _ _ rfl ⟨hY, h18, h19, h20, h21, d18_19, V.step 5 rfl⟩
             · go_wp2_with fail
               exact hK _ (.pointer (some ⟨w.heap.size + 1 + 1, 0, none⟩)) _ (by simp only [Act.put, pA, pB, pC ]) ⟨hY, h18, h19, h20, h21, d18_19, V.step 6 rfl⟩
             · have e6 := V.at (zdq hd 6 rfl) rfl
               refine wp_load_mid 23 _ rfl _ 0 e6 _ _ ((B2.zw hY).fra) Try.underlying23 rfl (by rw [zl]; exact Try.size23) ?_
               exact hK _ _ _ rfl ⟨hY, h18, h19, h20, h21, d18_19, V.step 7 rfl⟩
             · have e3 := V.at (zdq hd 3 rfl) rfl
               have e5 := V.at (zdq hd 5 rfl) rfl
               have e7 := V.at (zdq hd 7 rfl) rfl
               go_wp2_with (go_at_call 94; refine (P9.out _).mono ?_; rintro e wy ⟨rfl, hy⟩)
               exact hK _ (.agg (zb 64 (Aa))) _ (by simp only [Act.put, pA, pB, pC, e3, e5, e7]) ⟨hY.trans (hy.mono hY.size), (fun h => (h18 h).below hy), (fun h => (h19 h).below hy), (fun h => (h20 h).below hy), (fun h => (h21 h).below hy), d18_19, V.step 8 rfl⟩
             · go_wp2_with fail
               exact hK _ (.pointer (some ⟨w.heap.size, 0, none⟩)) _ (by simp only [Act.put, pA, pB, pC ]) ⟨hY, h18, h19, h20, h21, d18_19, V.step 9 rfl⟩
             · have e9 := V.at (zdq hd 9 rfl) rfl
               refine wp_load_rowc 2 _ rfl _ 0 e9 107 _ (B0.zw hY) (.int .i64 (p : Int)) (fdC_at _ _) _ Try.underlying2 rfl ?_
               exact hK _ _ _ rfl ⟨hY, h18, h19, h20, h21, d18_19, V.step 10 rfl⟩
             · refine zlc (B7.zw hY) Try.underlying23 Try.size23 ?_
               exact hK _ _ _ rfl ⟨hY, h18, h19, h20, h21, d18_19, V.step 11 rfl⟩
             · refine zlc (B7.zw hY) Try.underlying23 Try.size23 ?_
               exact hK _ _ _ rfl ⟨hY, h18, h19, h20, h21, d18_19, V.step 12 rfl⟩
             · have e10 := V.at (zdq hd 10 rfl) rfl
               have e11 := V.at (zdq hd 11 rfl) rfl
               have e12 := V.at (zdq hd 12 rfl) rfl
               go_wp2_with (go_at_call 94; refine (P10.out _).mono ?_; rintro e wy ⟨rfl, hy⟩)
               exact hK _ (.agg (zb 64 (Ee))) _ (by simp only [Act.put, pA, pB, pC, e10, e11, e12]) ⟨hY.trans (hy.mono hY.size), (fun h => (h18 h).below hy), (fun h => (h19 h).below hy), (fun h => (h20 h).below hy), (fun h => (h21 h).below hy), d18_19, V.step 13 rfl⟩
             · have e1 := V.at (zdq hd 1 rfl) rfl
               have e8 := V.at (zdq hd 8 rfl) rfl
               have e13 := V.at (zdq hd 13 rfl) rfl
               go_wp2_with (go_at_call 167; refine (Q2.out _).mono ?_; rintro e wy ⟨rfl, hy⟩)
               exact hK _ (.tuple #[(.agg (zb 64 (Ac))), (.agg (zb 64 (resP p Aa Ee)))]) _ (by simp only [Act.put, pA, pB, pC, e1, e8, e13]) ⟨hY.trans (hy.mono hY.size), (fun h => (h18 h).below hy), (fun h => (h19 h).below hy), (fun h => (h20 h).below hy), (fun h => (h21 h).below hy), d18_19, V.step 14 rfl⟩
             · have e14 := V.at (zdq hd 14 rfl) rfl
               go_wp2_with fail
               exact hK _ (.tuple #[(.agg (zb 64 (Ac))), (.agg (zb 64 (resP p Aa Ee)))]) _ (by simp only [Act.put, pA, pB, pC, e14]) ⟨hY, h18, h19, h20, h21, d18_19, V.step 15 rfl⟩
             · have e15 := V.at (zdq hd 15 rfl) rfl
               go_wp2_with fail
               exact hK _ (.agg (zb 64 (Ac))) _ (by simp only [Act.put, pA, pB, pC, e15]) ⟨hY, h18, h19, h20, h21, d18_19, V.step 16 rfl⟩
             · have e15 := V.at (zdq hd 15 rfl) rfl
               go_wp2_with fail
               exact hK _ (.agg (zb 64 (resP p Aa Ee))) _ (by simp only [Act.put, pA, pB, pC, e15]) ⟨hY, h18, h19, h20, h21, d18_19, V.step 17 rfl⟩
             · go_wp2_with fail
               rw [← z64]
               exact hK _ (.pointer (some ⟨W11.heap.size, 0, none⟩)) _ (by simp only [Act.put, pA, pB, pC ]) ⟨hY.alloc hY.size _, (fun _ => (PF.new W11 64 23 _ hY.size).af), (fun h => (h19 h).below (zal _ _)), (fun h => absurd rfl (hn 20 _ rfl h ⟨18, .data⟩ (by simp) rfl)), (fun h => (h21 h).below (zal _ _)), (fun h g1 => Ne.symm ((h19 g1).ne_new)), V.skip 18 rfl⟩
             · go_wp2_with fail
               rw [← z64]
               exact hK _ (.pointer (some ⟨W11.heap.size, 0, none⟩)) _ (by simp only [Act.put, pA, pB, pC ]) ⟨hY.alloc hY.size _, (fun h => (h18 h).below (zal _ _)), (fun _ => (PF.new W11 64 23 _ hY.size).af), (fun h => (h20 h).below (zal _ _)), (fun h => absurd rfl (hn 21 _ rfl h ⟨19, .data⟩ (by simp) rfl)), (fun h g1 => (h18 h).ne_new), V.skip 19 rfl⟩
             · have e16 := V.at (zdq hd 16 rfl) rfl
               obtain ⟨gz, b, ea, hN, hk⟩ := (h18 (zdq hd 18 rfl)).out
               refine zsb 23 _ _ rfl b 64 (Ac) ea e16 23 gz hk Try.size23 ?_
               exact hK _ undef _ rfl ⟨zr hY hN _, (fun h => (h18 h).row hk), (fun h => (h19 h).row hk), (fun _ => by rw [show updV v 20 undef 18 = v 18 from rfl, ea]; exact PF.row hk hN _), (fun h => (h21 h).rowOther (by rw [← ea]; exact (Ne.symm (d18_19 (zdq hd 18 rfl) (zdq hd 19 rfl))))), d18_19, V.skip 20 rfl⟩
             · have e17 := V.at (zdq hd 17 rfl) rfl
               obtain ⟨gz, b, ea, hN, hk⟩ := (h19 (zdq hd 19 rfl)).out
               refine zsb 23 _ _ rfl b 64 (resP p Aa Ee) ea e17 23 gz hk Try.size23 ?_
               exact hK _ undef _ rfl ⟨zr hY hN _, (fun h => (h18 h).row hk), (fun h => (h19 h).row hk), (fun h => (h20 h).rowOther (by rw [← ea]; exact (d18_19 (zdq hd 18 rfl) (zdq hd 19 rfl)))), (fun _ => by rw [show updV v 21 undef 19 = v 19 from rfl, ea]; exact PF.row hk hN _), d18_19, V.skip 21 rfl⟩
           · intro L v W11 hL ⟨hY, h18, h19, h20, h21, d18_19, V⟩
             obtain ⟨k8_18, e18, hNk8_18, hk8_18⟩ := (h20 (hL 20 (by decide))).out
             obtain ⟨k8_19, e19, hNk8_19, hk8_19⟩ := (h21 (hL 21 (by decide))).out
             have n18_19 := d18_19 (hL 18 (by decide)) (hL 19 (by decide))
             have e0 := V.at (hL 0 (by decide)) rfl
             have e1 := V.at (hL 1 (by decide)) rfl
             have e2 := V.at (hL 2 (by decide)) rfl
             have e3 := V.at (hL 3 (by decide)) rfl
             have e4 := V.at (hL 4 (by decide)) rfl
             have e5 := V.at (hL 5 (by decide)) rfl
             have e6 := V.at (hL 6 (by decide)) rfl
             have e7 := V.at (hL 7 (by decide)) rfl
             have e8 := V.at (hL 8 (by decide)) rfl
             have e9 := V.at (hL 9 (by decide)) rfl
             have e10 := V.at (hL 10 (by decide)) rfl
             have e11 := V.at (hL 11 (by decide)) rfl
             have e12 := V.at (hL 12 (by decide)) rfl
             have e13 := V.at (hL 13 (by decide)) rfl
             have e14 := V.at (hL 14 (by decide)) rfl
             have e15 := V.at (hL 15 (by decide)) rfl
             have e16 := V.at (hL 16 (by decide)) rfl
             have e17 := V.at (hL 17 (by decide)) rfl
             clear hL h18 h19 h20 h21 d18_19 V
             replace B0 := B0.zw hY
             replace B1 := B1.zw hY
             replace B2 := B2.zw hY
             replace B3 := B3.zw hY
             replace B4 := B4.zw hY
             replace B5 := B5.zw hY
             replace B6 := B6.zw hY
             replace B7 := B7.zw hY
             replace B8 := B8.zw hY
             replace B9 := B9.zw hY
             replace B10 := B10.zw hY
             replace B11 := B11.zw hY
             replace B12 := B12.zw hY
             replace hb := hb.trans (hY.mono hb.size)
             clear hY
             rw [e18, e19] at n18_19
             have mk8_18_19 : k8_18 ≠ k8_19 := fun h => n18_19 (by rw [h])
             clear n18_19
             simp only [Exit.then, e18, e19, e0, e1, e2, e3, e4, e5, e6, e7, e8, e9, e10, e11, e12, e13, e14, e15, e16, e17]
             clear e18 e19 e0 e1 e2 e3 e4 e5 e6 e7 e8 e9 e10 e11 e12 e13 e14 e15 e16 e17
             have B13 := hk8_18
             clear hk8_18
             have zk8_18_0 : w.heap.size < k8_18 := by omega
             have zk8_18_1 : w.heap.size + 1 < k8_18 := by omega
             have zk8_18_2 : w.heap.size + 1 + 1 < k8_18 := by omega
             have zk8_18_3 : w.heap.size + 1 + 1 + 1 < k8_18 := by omega
             have zk8_18_4 : N1 < k8_18 := by omega
             have zk8_18_5 : N1 + 1 < k8_18 := by omega
             have zk8_18_6 : N1 + 1 + 1 < k8_18 := by omega
             have zk8_18_7 : k2_15 < k8_18 := by omega
             have zk8_18_8 : k2_16 < k8_18 := by omega
             have zk8_18_9 : k2_17 < k8_18 := by omega
             have zk8_18_10 : k3_10 < k8_18 := by omega
             have zk8_18_11 : k3_11 < k8_18 := by omega
             have zk8_18_12 : k4_11 < k8_18 := by omega
             have B14 := hk8_19
             clear hk8_19
             have zk8_19_0 : w.heap.size < k8_19 := by omega
             have zk8_19_1 : w.heap.size + 1 < k8_19 := by omega
             have zk8_19_2 : w.heap.size + 1 + 1 < k8_19 := by omega
             have zk8_19_3 : w.heap.size + 1 + 1 + 1 < k8_19 := by omega
             have zk8_19_4 : N1 < k8_19 := by omega
             have zk8_19_5 : N1 + 1 < k8_19 := by omega
             have zk8_19_6 : N1 + 1 + 1 < k8_19 := by omega
             have zk8_19_7 : k2_15 < k8_19 := by omega
             have zk8_19_8 : k2_16 < k8_19 := by omega
             have zk8_19_9 : k2_17 < k8_19 := by omega
             have zk8_19_10 : k3_10 < k8_19 := by omega
             have zk8_19_11 : k3_11 < k8_19 := by omega
             have zk8_19_12 : k4_11 < k8_19 := by omega
             clear lt_B0 lt_B1 lt_B2 lt_B3 lt_B4 lt_B5 lt_B6 lt_B7 lt_B8 lt_B9 lt_B10 lt_B11 lt_B12
             go_upto_region 9 with (fail)
             have lt_B0 : (w.heap.size) < W11.heap.size := B0.lt
             have lt_B1 : (w.heap.size + 1) < W11.heap.size := B1.lt
             have lt_B2 : (w.heap.size + 1 + 1) < W11.heap.size := B2.lt
             have lt_B3 : (w.heap.size + 1 + 1 + 1) < W11.heap.size := B3.lt
             have lt_B4 : (N1) < W11.heap.size := B4.lt
             have lt_B5 : (N1 + 1) < W11.heap.size := B5.lt
             have lt_B6 : (N1 + 1 + 1) < W11.heap.size := B6.lt
             have lt_B7 : (k2_15) < W11.heap.size := B7.lt
             have lt_B8 : (k2_16) < W11.heap.size := B8.lt
             have lt_B9 : (k2_17) < W11.heap.size := B9.lt
             have lt_B10 : (k3_10) < W11.heap.size := B10.lt
             have lt_B11 : (k3_11) < W11.heap.size := B11.lt
             have lt_B12 : (k4_11) < W11.heap.size := B12.lt
             have lt_B13 : (k8_18) < W11.heap.size := B13.lt
             have lt_B14 : (k8_19) < W11.heap.size := B14.lt
             have hbase : w.heap.size ≤ W11.heap.size := hb.size
             refine zq Try.mixed (by kernel_rfl) (by kernel_rfl) (fun v => by (simp only [frL, Act.put, pA, pB, pC, Nat.reduceAdd, Nat.zero_add]; exact rfl))
              (fun L v W12 => Below w.heap.size w W12 ∧ Kx [w.heap.size + 1 + 1 + 1] W11 W12 ∧ (∃ g : Array Value, g.size = 128 ∧ Row W12 (w.heap.size + 1 + 1 + 1) 55 (g)) ∧ (L 9 = false → Row W12 (w.heap.size + 1 + 1 + 1) 55 ((frC (fun _ => 0) (fun _ => 0)).toArray)) ∧ (L 9 = true → Row W12 (w.heap.size + 1 + 1 + 1) 55 ((frC Fa Fb).toArray)) ∧ VF L v [some (.agg (fdC (p : Int) D).toArray), some (.agg (zb 64 (Ac))), some (.pointer (some ⟨w.heap.size, 0, none⟩)), some (.int .i64 (p : Int)), some (.agg (zb 64 (Qq))), some (.agg (zb 64 (Ac))), some (.agg (zb 64 (Rc))), some (.agg (frC Ac Rc).toArray), some (.agg (frC Fa Fb).toArray), none]) ?_ ?_ ?_
             · intro v hv0
               exact ⟨hb.drew, Kx.start _ _, ⟨_, by simp [frC_len], B3.drew⟩, (fun _ => B3.drew), (fun h => by cases h), VF.start⟩
             · refine (.cons rfl ?_ (.cons rfl ?_ (.cons rfl ?_ (.cons rfl ?_ (.cons rfl ?_ (.cons rfl ?_ (.cons rfl ?_ (.cons rfl ?_ (.cons rfl ?_ (.cons rfl ?_ (.nil _)))))))))))
               all_goals intro L v W12 hd hn ⟨hB, hX, x3, q3, n3, V⟩ K hK
               · refine wp_load_rowv 107 _ rfl _ rfl 107 _ (B0.kx hX (by simp <;> omega)) _ Try.underlying107 rfl 65 Try.size107 (by simp [fdC_len]) ?_
                 exact hK _ _ _ rfl ⟨hB, hX, x3, q3, n3, V.step 0 rfl⟩
               · refine wp_load_any 23 _ rfl _ rfl 64 23 _ (B13.kx hX (by simp <;> omega)) _ Try.underlying23 rfl Try.size23 ?_
                 exact hK _ _ _ rfl ⟨hB, hX, x3, q3, n3, V.step 1 rfl⟩
               · go_wp2_with fail
                 exact hK _ (.pointer (some ⟨w.heap.size, 0, none⟩)) _ (by simp only [Act.put, pA, pB, pC ]) ⟨hB, hX, x3, q3, n3, V.step 2 rfl⟩
               · have e2 := V.at (zdq hd 2 rfl) rfl
                 refine wp_load_rowc 2 _ rfl _ 0 e2 107 _ (B0.kx hX (by simp <;> omega)) (.int .i64 (p : Int)) (fdC_at _ _) _ Try.underlying2 rfl ?_
                 exact hK _ _ _ rfl ⟨hB, hX, x3, q3, n3, V.step 3 rfl⟩
               · refine wp_load_any 23 _ rfl _ rfl 64 23 _ (B12.kx hX (by simp <;> omega)) _ Try.underlying23 rfl Try.size23 ?_
                 exact hK _ _ _ rfl ⟨hB, hX, x3, q3, n3, V.step 4 rfl⟩
               · refine wp_load_any 23 _ rfl _ rfl 64 23 _ (B13.kx hX (by simp <;> omega)) _ Try.underlying23 rfl Try.size23 ?_
                 exact hK _ _ _ rfl ⟨hB, hX, x3, q3, n3, V.step 5 rfl⟩
               · have e3 := V.at (zdq hd 3 rfl) rfl
                 have e4 := V.at (zdq hd 4 rfl) rfl
                 have e5 := V.at (zdq hd 5 rfl) rfl
                 go_wp2_with (go_at_call 150; refine (Q3.out _).mono ?_; rintro e wy ⟨rfl, hy⟩)
                 exact hK _ (.agg (zb 64 (Rc))) _ (by simp only [Act.put, pA, pB, pC, e3, e4, e5]) ⟨hB.trans (hy.mono hB.size), hX.below hy, (let ⟨g, hg, h⟩ := x3; ⟨g, hg, h.zw hy⟩), (fun h => (q3 h).below hy (q3 h).lt), (fun h => (n3 h).below hy (n3 h).lt), V.step 6 rfl⟩
               · have e1 := V.at (zdq hd 1 rfl) rfl
                 have e6 := V.at (zdq hd 6 rfl) rfl
                 refine wp_build_of 55 _ rfl (frC Ac Rc).toArray (by rw [Array.toList_map]; simp only [e1, e6, Act.eval]; exact built_fr _ _) ?_
                 exact hK _ _ _ rfl ⟨hB, hX, x3, q3, n3, V.step 7 rfl⟩
               · have e0 := V.at (zdq hd 0 rfl) rfl
                 have e7 := V.at (zdq hd 7 rfl) rfl
                 go_wp2_with (go_at_call 130; refine (RD.out _).mono ?_; rintro e wy ⟨rfl, hy⟩)
                 exact hK _ (.agg (frC Fa Fb).toArray) _ (by simp only [Act.put, pA, pB, pC, e0, e7]) ⟨hB.trans (hy.mono hB.size), hX.below hy, (let ⟨g, hg, h⟩ := x3; ⟨g, hg, h.zw hy⟩), (fun h => (q3 h).below hy (q3 h).lt), (fun h => (n3 h).below hy (n3 h).lt), V.step 8 rfl⟩
               · have e8 := V.at (zdq hd 8 rfl) rfl
                 obtain ⟨gz, hgz, hk⟩ := x3
                 refine wp_store_rowv 55 _ _ rfl _ rfl ((frC Fa Fb).toArray) e8 55 gz hk 128 Try.size55 hgz (by simp [frC_len]) (frC_all _ _) ?_
                 exact hK _ undef _ rfl ⟨zr hB (by omega) _, hX.row (by simp) _, ⟨_, by simp [frC_len], hk.row _⟩, (fun h => absurd h (by simp [setL])), (fun _ => hk.row _), V.skip 9 rfl⟩
             · intro L v W12 hL ⟨hB, hX, x3, q3, n3, V⟩
               have r3 := n3 (hL 9 (by decide))
               have e0 := V.at (hL 0 (by decide)) rfl
               have e1 := V.at (hL 1 (by decide)) rfl
               have e2 := V.at (hL 2 (by decide)) rfl
               have e3 := V.at (hL 3 (by decide)) rfl
               have e4 := V.at (hL 4 (by decide)) rfl
               have e5 := V.at (hL 5 (by decide)) rfl
               have e6 := V.at (hL 6 (by decide)) rfl
               have e7 := V.at (hL 7 (by decide)) rfl
               have e8 := V.at (hL 8 (by decide)) rfl
               clear hL x3 q3 n3 V
               replace B0 := B0.kx hX (by simp <;> omega)
               replace B1 := B1.kx hX (by simp <;> omega)
               replace B2 := B2.kx hX (by simp <;> omega)
               replace B4 := B4.kx hX (by simp <;> omega)
               replace B5 := B5.kx hX (by simp <;> omega)
               replace B6 := B6.kx hX (by simp <;> omega)
               replace B7 := B7.kx hX (by simp <;> omega)
               replace B8 := B8.kx hX (by simp <;> omega)
               replace B9 := B9.kx hX (by simp <;> omega)
               replace B10 := B10.kx hX (by simp <;> omega)
               replace B11 := B11.kx hX (by simp <;> omega)
               replace B12 := B12.kx hX (by simp <;> omega)
               replace B13 := B13.kx hX (by simp <;> omega)
               replace B14 := B14.kx hX (by simp <;> omega)
               clear hX
               simp only [Exit.then, e0, e1, e2, e3, e4, e5, e6, e7, e8]
               clear e0 e1 e2 e3 e4 e5 e6 e7 e8
               replace B3 := r3
               clear r3
               replace hb := hB
               clear hB
               clear hbase lt_B0 lt_B1 lt_B2 lt_B3 lt_B4 lt_B5 lt_B6 lt_B7 lt_B8 lt_B9 lt_B10 lt_B11 lt_B12 lt_B13 lt_B14
               go_wp2_with fail
               refine bodyPost_ret (results_row rfl _ _ _ _ _ rfl B3 _ Try.underlying55 rfl (by rw [Try.size55]; simp [frC_len])) rfl ⟨rfl, hb⟩
set_option maxRecDepth 100000 in
set_option maxHeartbeats 3200000 in
theorem l07Compose_any (p g : Nat) (D X1 Y1 X2 Y2 : Nat → Nat) (w : World) (hpr : p = 2 ∨ p = 3 ∨ p = 5 ∨ p = 7) (lD : ∀ k, k < 64 → D k < p) (hD : deg D = ((2 * g + 1 : Nat) : Int)) (hg : g ≤ 2) (f1 : fmR p D X1 Y1 g) (f2 : fmR p D X2 Y2 g) :
 Calls Try.prog 133 #[.int .i64 (p : Int), .agg (zb 64 D), .agg (frC X1 Y1).toArray, .agg (frC X2 Y2).toArray] w fun e w' => e = .returned (.agg (frC (cpF p D g X1 Y1 X2 Y2).1 (cpF p D g X1 Y1 X2 Y2).2).toArray) ∧ Below w.heap.size w w' := by
 have p0 : 0 < p := by omega
 have p2 : 2 ≤ p := by omega
 have p7 : p ≤ 7 := by omega
 obtain ⟨a1, a2, a3, a4, a5, a6, a7, a8, ⟨ng, a9, a10⟩, a11, a12, a13, ⟨ne, a14, a15⟩, a16, a17, a18, a19⟩ := cp_deg hpr lD hD hg f1 f2
 obtain ⟨lrR, lrS, leV, leD, lgD⟩ := cp_lt hpr lD hD hg f1 f2
 have hok := cp_ok hpr lD hD hg f1 f2
 have hsm := cp_same hpr lD hD hg f1 f2
 obtain ⟨⟨lX1, lY1, _, _, _⟩, _⟩ := f1
 obtain ⟨⟨lX2, lY2, _, _, _⟩, _⟩ := f2
 have d1 : deg (prd p (cpR p X1 Y1 X2 Y2) X1) ≤ ((4 + 2 : Nat) : Int) := prd_le p0 (by omega) (by omega)
 have d2 : deg (prd p (cpS p X1 Y1 X2 Y2) X2) ≤ ((4 + 2 : Nat) : Int) := prd_le p0 (by omega) (by omega)
 obtain ⟨gD, hgD⟩ : ∃ gD, gD = bzD p X1 X2 := ⟨_, rfl⟩
 obtain ⟨gU, hgU⟩ : ∃ gU, gU = bzU p X1 X2 := ⟨_, rfl⟩
 obtain ⟨gV, hgV⟩ : ∃ gV, gV = bzW p X1 X2 := ⟨_, rfl⟩
 obtain ⟨sS, hsS⟩ : ∃ sS, sS = addK p Y1 Y2 1 := ⟨_, rfl⟩
 obtain ⟨eD, heD⟩ : ∃ eD, eD = bzD p gD sS := ⟨_, rfl⟩
 obtain ⟨eU, heU⟩ : ∃ eU, eU = bzU p gD sS := ⟨_, rfl⟩
 obtain ⟨eV, heV⟩ : ∃ eV, eV = bzW p gD sS := ⟨_, rfl⟩
 obtain ⟨rR, hrR⟩ : ∃ rR, rR = prd p eU gU := ⟨_, rfl⟩
 obtain ⟨rS, hrS⟩ : ∃ rS, rS = prd p eU gV := ⟨_, rfl⟩
 obtain ⟨ma, hma⟩ : ∃ ma, ma = prd p X1 Y2 := ⟨_, rfl⟩
 obtain ⟨na, hna⟩ : ∃ na, na = prd p rR ma := ⟨_, rfl⟩
 obtain ⟨mb, hmb⟩ : ∃ mb, mb = prd p X2 Y1 := ⟨_, rfl⟩
 obtain ⟨nb, hnb⟩ : ∃ nb, nb = prd p rS mb := ⟨_, rfl⟩
 obtain ⟨ka, hka⟩ : ∃ ka, ka = addK p na nb 1 := ⟨_, rfl⟩
 obtain ⟨mc, hmc⟩ : ∃ mc, mc = prd p Y1 Y2 := ⟨_, rfl⟩
 obtain ⟨md, hmd⟩ : ∃ md, md = addK p mc D 1 := ⟨_, rfl⟩
 obtain ⟨nc, hnc⟩ : ∃ nc, nc = prd p eV md := ⟨_, rfl⟩
 obtain ⟨kb, hkb⟩ : ∃ kb, kb = addK p ka nc 1 := ⟨_, rfl⟩
 obtain ⟨oa, hoa⟩ : ∃ oa, oa = prd p (prd p rR X1) Y2 := ⟨_, rfl⟩
 obtain ⟨ob, hob⟩ : ∃ ob, ob = prd p (prd p rS X2) Y1 := ⟨_, rfl⟩
 obtain ⟨oc, hoc⟩ : ∃ oc, oc = addK p oa ob 1 := ⟨_, rfl⟩
 obtain ⟨od, hod⟩ : ∃ od, od = addK p oc nc 1 := ⟨_, rfl⟩
 obtain ⟨Qq, hQq⟩ : ∃ Qq, Qq = quoP p kb eD := ⟨_, rfl⟩
 obtain ⟨Aa, hAa⟩ : ∃ Aa, Aa = prd p X1 X2 := ⟨_, rfl⟩
 obtain ⟨Ee, hEe⟩ : ∃ Ee, Ee = prd p eD eD := ⟨_, rfl⟩
 obtain ⟨Ac, hAc⟩ : ∃ Ac, Ac = quoP p Aa Ee := ⟨_, rfl⟩
 obtain ⟨Rc, hRc⟩ : ∃ Rc, Rc = resP p Qq Ac := ⟨_, rfl⟩
 have eR : cpR p X1 Y1 X2 Y2 = rR := by rw [hrR, heU, hgU, hgD, hsS]; rfl
 have eS : cpS p X1 Y1 X2 Y2 = rS := by rw [hrS, heU, hgV, hgD, hsS]; rfl
 have eT : cpT p X1 Y1 X2 Y2 = eV := by rw [heV, hgD, hsS]; rfl
 have eE : cpD p X1 Y1 X2 Y2 = eD := by rw [heD, hgD, hsS]; rfl
 have eL : cpL p D X1 Y1 X2 Y2 = nc := by unfold cpL; rw [eT, hnc, hmd, hmc]
 have eN : cpQ p D X1 Y1 X2 Y2 = kb := by unfold cpQ; rw [eL, eR, eS, hkb, hka, hna, hnb, hma, hmb]
 have eM : cpM p D X1 Y1 X2 Y2 = od := by unfold cpM; rw [eL, eR, eS, hod, hoc, hoa, hob]
 have eB : cpB p D X1 Y1 X2 Y2 = Qq := by unfold cpB; rw [eN, eE, hQq]
 have eA : cpA p X1 Y1 X2 Y2 = Ac := by unfold cpA; rw [eE, hAc, hAa, hEe]
 have HV := Lib.hid (show rdR p D g 64 Ac Rc = cpF p D g X1 Y1 X2 Y2 by unfold cpF; rw [eA, eB, hRc])
 rw [eR] at a16 lrR d1
 rw [eS] at a17 lrS d2
 rw [eT] at a13 leV
 rw [eE] at a14 leD
 rw [eA, eB, ← hRc] at hok
 rw [eM, eN] at hsm
 rw [← hgU] at a7
 rw [← hgV] at a8
 rw [← hgD] at a9 lgD
 rw [← hsS] at a11
 rw [← hgD, ← hsS, ← heU] at a12
 rw [← hmc] at a18
 rw [← hmc, ← hmd] at a19
 have g0 : 0 ≤ deg gD := by rw [a9.1]; omega
 have e0 : 0 ≤ deg eD := by rw [a14.1]; omega
 have lsS : ∀ k, k < 64 → sS k < p := fun k _ => by rw [hsS]; exact addK_lt p0 k
 have lgU : ∀ k, k < 64 → gU k < p := fun k _ => by rw [hgU]; unfold bzU; exact Nat.mod_lt _ p0
 have lgV : ∀ k, k < 64 → gV k < p := fun k _ => by rw [hgV]; unfold bzW; exact Nat.mod_lt _ p0
 have leU : ∀ k, k < 64 → eU k < p := fun k _ => by rw [heU]; unfold bzU; exact Nat.mod_lt _ p0
 have lmc : ∀ k, k < 64 → mc k < p := fun k _ => by rw [hmc]; exact prd_lt p0 k
 have lmd : ∀ k, k < 64 → md k < p := fun k _ => by rw [hmd]; exact addK_lt p0 k
 have lnc : ∀ k, k < 64 → nc k < p := fun k _ => by rw [hnc]; exact prd_lt p0 k
 have lkb : ∀ k, k < 64 → kb k < p := fun k _ => by rw [hkb]; exact addK_lt p0 k
 have lAa : ∀ k, k < 64 → Aa k < p := fun k _ => by rw [hAa]; exact prd_lt p0 k
 have lEe : ∀ k, k < 64 → Ee k < p := fun k _ => by rw [hEe]; exact prd_lt p0 k
 have lQq : ∀ k, k < 64 → Qq k < p := fun k _ => by rw [hQq]; exact quoP_lt p0 k
 have e2 : 0 ≤ deg Ee := by
  have := (mon_prd hpr (fun k _ => leD k) (fun k _ => leD k) a14 a14 (by omega)).1
  rw [hEe, this]; omega
 have K1 := Lib.hid (show ∀ W, Calls Try.prog 171 #[.int .i64 (p : Int), .agg (zb 64 X1), .agg (zb 64 X2)] W fun e w' => e = .returned (.tuple #[.agg (zb 64 gD), .agg (zb 64 gU), .agg (zb 64 gV)]) ∧ Below W.heap.size W w' from fun W => by
  have := l01Bezout_any p X1 X2 W hpr lX1 lX2 (.inl a1)
  rw [← hgD, ← hgU, ← hgV] at this; exact this)
 have K2 := Lib.hid (show ∀ W, Calls Try.prog 171 #[.int .i64 (p : Int), .agg (zb 64 gD), .agg (zb 64 sS)] W fun e w' => e = .returned (.tuple #[.agg (zb 64 eD), .agg (zb 64 eU), .agg (zb 64 eV)]) ∧ Below W.heap.size W w' from fun W => by
  have := l01Bezout_any p gD sS W hpr (fun k _ => lgD k) lsS (.inl g0)
  rw [← heD, ← heU, ← heV] at this; exact this)
 have S1 := Lib.hid (show ∀ W, Calls Try.prog 153 #[.int .i64 (p : Int), .agg (zb 64 Y1), .agg (zb 64 Y2), .int .i64 1] W fun e w' => e = .returned (.agg (zb 64 sS)) ∧ Below W.heap.size W w' from fun W => by
  have := l01Add_any p Y1 Y2 1 W p2 p7 (by omega) (by omega) lY1 lY2
  rw [← hsS] at this; exact this)
 have P1 := Lib.hid (show ∀ W, Calls Try.prog 91 #[.int .i64 (p : Int), .agg (zb 64 eU), .agg (zb 64 gU)] W fun e w' => e = .returned (.tuple #[.agg (zb 64 rR), .bool true]) ∧ Below W.heap.size W w' from fun W => by
  have := l01Times_any p eU gU W p2 p7 leU lgU
  rw [show tmV p eU gU = (prd p eU gU, true) from if_pos (by omega), ← hrR] at this; exact this)
 have P2 := Lib.hid (show ∀ W, Calls Try.prog 91 #[.int .i64 (p : Int), .agg (zb 64 eU), .agg (zb 64 gV)] W fun e w' => e = .returned (.tuple #[.agg (zb 64 rS), .bool true]) ∧ Below W.heap.size W w' from fun W => by
  have := l01Times_any p eU gV W p2 p7 leU lgV
  rw [show tmV p eU gV = (prd p eU gV, true) from if_pos (by omega), ← hrS] at this; exact this)
 have P10 := Lib.hid (show ∀ W, Calls Try.prog 91 #[.int .i64 (p : Int), .agg (zb 64 eD), .agg (zb 64 eD)] W fun e w' => e = .returned (.tuple #[.agg (zb 64 Ee), .bool true]) ∧ Below W.heap.size W w' from fun W => by
  have := l01Times_any p eD eD W p2 p7 (fun k _ => leD k) (fun k _ => leD k)
  rw [show tmV p eD eD = (prd p eD eD, true) from if_pos (by rw [a14.1]; omega), ← hEe] at this; exact this)
 have P9 := Lib.hid (show ∀ W, Calls Try.prog 91 #[.int .i64 (p : Int), .agg (zb 64 X1), .agg (zb 64 X2)] W fun e w' => e = .returned (.tuple #[.agg (zb 64 Aa), .bool true]) ∧ Below W.heap.size W w' from fun W => by
  have := l01Times_any p X1 X2 W p2 p7 lX1 lX2
  rw [show tmV p X1 X2 = (prd p X1 X2, true) from if_pos (by omega), ← hAa] at this; exact this)
 have Q2 := Lib.hid (show ∀ W, Calls Try.prog 155 #[.int .i64 (p : Int), .agg (zb 64 Aa), .agg (zb 64 Ee)] W fun e w' => e = .returned (.tuple #[.agg (zb 64 Ac), .agg (zb 64 (resP p Aa Ee))]) ∧ Below W.heap.size W w' from fun W => by
  have := l01Divide_any p Aa Ee W hpr lAa lEe e2
  rw [← hAc] at this; exact this)
 have P7 := Lib.hid (show ∀ W, Calls Try.prog 91 #[.int .i64 (p : Int), .agg (zb 64 Y1), .agg (zb 64 Y2)] W fun e w' => e = .returned (.tuple #[.agg (zb 64 mc), .bool true]) ∧ Below W.heap.size W w' from fun W => by
  have := l01Times_any p Y1 Y2 W p2 p7 lY1 lY2
  rw [show tmV p Y1 Y2 = (prd p Y1 Y2, true) from if_pos (by omega), ← hmc] at this; exact this)
 have O1 := Lib.hid (show ∀ W, Calls Try.prog 172 #[.int .i64 (p : Int), .agg (zb 64 rR), .agg (zb 64 X1), .agg (zb 64 Y2)] W fun e w' => e = .returned (.agg (zb 64 oa)) ∧ Below W.heap.size W w' from fun W => by
  have := l07Product_any p rR X1 Y2 W p2 p7 (fun k _ => lrR k) lX1 lY2 (by omega) (by omega)
  rw [← hoa] at this; exact this)
 have O2 := Lib.hid (show ∀ W, Calls Try.prog 172 #[.int .i64 (p : Int), .agg (zb 64 rS), .agg (zb 64 X2), .agg (zb 64 Y1)] W fun e w' => e = .returned (.agg (zb 64 ob)) ∧ Below W.heap.size W w' from fun W => by
  have := l07Product_any p rS X2 Y1 W p2 p7 (fun k _ => lrS k) lX2 lY1 (by omega) (by omega)
  rw [← hob] at this; exact this)
 have S2 := Lib.hid (show ∀ W, Calls Try.prog 153 #[.int .i64 (p : Int), .agg (zb 64 oa), .agg (zb 64 ob), .int .i64 1] W fun e w' => e = .returned (.agg (zb 64 oc)) ∧ Below W.heap.size W w' from fun W => by
  have := l01Add_any p oa ob 1 W p2 p7 (by omega) (by omega) (fun k _ => by rw [hoa]; exact prd_lt p0 k) (fun k _ => by rw [hob]; exact prd_lt p0 k)
  rw [← hoc] at this; exact this)
 have S3 := Lib.hid (show ∀ W, Calls Try.prog 153 #[.int .i64 (p : Int), .agg (zb 64 mc), .agg (zb 64 D), .int .i64 1] W fun e w' => e = .returned (.agg (zb 64 md)) ∧ Below W.heap.size W w' from fun W => by
  have := l01Add_any p mc D 1 W p2 p7 (by omega) (by omega) lmc lD
  rw [← hmd] at this; exact this)
 have P8 := Lib.hid (show ∀ W, Calls Try.prog 91 #[.int .i64 (p : Int), .agg (zb 64 eV), .agg (zb 64 md)] W fun e w' => e = .returned (.tuple #[.agg (zb 64 nc), .bool true]) ∧ Below W.heap.size W w' from fun W => by
  have := l01Times_any p eV md W p2 p7 (fun k _ => leV k) lmd
  rw [show tmV p eV md = (prd p eV md, true) from if_pos (by omega), ← hnc] at this; exact this)
 have S4 := Lib.hid (show ∀ W, Calls Try.prog 153 #[.int .i64 (p : Int), .agg (zb 64 oc), .agg (zb 64 nc), .int .i64 1] W fun e w' => e = .returned (.agg (zb 64 od)) ∧ Below W.heap.size W w' from fun W => by
  have := l01Add_any p oc nc 1 W p2 p7 (by omega) (by omega) (fun k _ => by rw [hoc]; exact addK_lt p0 k) lnc
  rw [← hod] at this; exact this)
 have Q1 := Lib.hid (show ∀ W, Calls Try.prog 155 #[.int .i64 (p : Int), .agg (zb 64 od), .agg (zb 64 eD)] W fun e w' => e = .returned (.tuple #[.agg (zb 64 Qq), .agg (zb 64 (resP p od eD))]) ∧ Below W.heap.size W w' from fun W => by
  have := l01Divide_any p od eD W hpr (fun k _ => by rw [hod]; exact addK_lt p0 k) (fun k _ => leD k) e0
  rw [quoP_congr hsm, ← hQq] at this; exact this)
 have Q3 := Lib.hid (show ∀ W, Calls Try.prog 146 #[.int .i64 (p : Int), .agg (zb 64 Qq), .agg (zb 64 Ac)] W fun e w' => e = .returned (.agg (zb 64 Rc)) ∧ Below W.heap.size W w' from fun W => by
  have := l01Mod_any p Qq Ac W hpr lQq hok.1 (fmI_deg hok).1
  rw [← hRc] at this; exact this)
 have RD := Lib.hid (fun W => l07Reduce_any p g D Ac Rc W hpr lD hD hok)
 rw [HV.out] at RD
 obtain ⟨Fa, hFa⟩ : ∃ Fa, Fa = (cpF p D g X1 Y1 X2 Y2).1 := ⟨_, rfl⟩
 obtain ⟨Fb, hFb⟩ : ∃ Fb, Fb = (cpF p D g X1 Y1 X2 Y2).2 := ⟨_, rfl⟩
 rw [← hFa, ← hFb] at RD ⊢
 clear a1 a2 a3 a4 a5 a6 a7 a8 a9 a10 a11 a12 a13 a14 a15 a16 a17 a18 a19 lrR lrS leV leD lgD hok hsm d1 d2 eR eS eT eE eL eN eM eB eA g0 e0 e2 lsS lgU lgV leU lmc lmd lnc lkb lAa lEe lQq HV lX1 lX2 lY1 lY2 lD hD hg hFa hFb hgD hgU hgV hsS heD heU heV hrR hrS hma hna hmb hnb hka hmc hmd hnc hkb hoa hob hoc hod hQq hAa hEe hAc hRc
 go_enter Try.func133, Try.ntmps133
 go_upto_region 1 with (fail)
 rw [← frC_zero]
 obtain ⟨W1, hwo⟩ : ∃ v : World, v = ((((w.alloc (.cells (zb 64 (D)) 23)).alloc (.cells (frC X1 Y1).toArray 55)).alloc (.cells (frC X2 Y2).toArray 55)).alloc (.cells (frC (fun _ => 0) (fun _ => 0)).toArray 55)) := ⟨_, rfl⟩
 have B0 : Blk W1 (w.heap.size) 64 23 (D) := by subst hwo; have := ((((Blk.new w 64 23 (D)).alloc (.cells (frC X1 Y1).toArray 55)).alloc (.cells (frC X2 Y2).toArray 55)).alloc (.cells (frC (fun _ => 0) (fun _ => 0)).toArray 55)); simpa using this
 have B1 : Row W1 (w.heap.size + 1) 55 (frC X1 Y1).toArray := by subst hwo; have := (((Row.new (w.alloc (.cells (zb 64 (D)) 23)) 55 (frC X1 Y1).toArray).alloc (.cells (frC X2 Y2).toArray 55)).alloc (.cells (frC (fun _ => 0) (fun _ => 0)).toArray 55)); simpa using this
 have B2 : Row W1 (w.heap.size + 1 + 1) 55 (frC X2 Y2).toArray := by subst hwo; have := ((Row.new ((w.alloc (.cells (zb 64 (D)) 23)).alloc (.cells (frC X1 Y1).toArray 55)) 55 (frC X2 Y2).toArray).alloc (.cells (frC (fun _ => 0) (fun _ => 0)).toArray 55)); simpa using this
 have B3 : Row W1 (w.heap.size + 1 + 1 + 1) 55 (frC (fun _ => 0) (fun _ => 0)).toArray := by subst hwo; have := (Row.new (((w.alloc (.cells (zb 64 (D)) 23)).alloc (.cells (frC X1 Y1).toArray 55)).alloc (.cells (frC X2 Y2).toArray 55)) 55 (frC (fun _ => 0) (fun _ => 0)).toArray); simpa using this
 have hb : Below w.heap.size w W1 := by subst hwo; exact (((((Below.refl _ _).alloc (Nat.le_refl _) _).alloc (by simp) _).alloc (by simp; omega) _).alloc (by simp; omega) _)
 rw [← hwo]
 clear hwo
 have lt_B0 := B0.lt
 have lt_B1 := B1.lt
 have lt_B2 := B2.lt
 have lt_B3 := B3.lt
 go_upto_region 2 with (first | rw [← z64] | (refine wpList_load_mid rfl 23 (.tmp 34) rfl _ 64 rfl (bl 64 Y1) _ (B1.frb) Try.underlying23 rfl (by rw [zl]; exact Try.size23) ?_) | (refine wpList_load_mid rfl 23 (.tmp 36) rfl _ 64 rfl (bl 64 Y2) _ (B2.frb) Try.underlying23 rfl (by rw [zl]; exact Try.size23) ?_) | (go_at_call 153; refine (S1.out _).mono ?_; rintro e W2 ⟨rfl, hW2⟩; replace B0 := B0.zw hW2; replace B1 := B1.zw hW2; replace B2 := B2.zw hW2; replace B3 := B3.zw hW2; replace hb := (hb).trans (hW2.mono (hb).size)) | (refine wpList_store_blk rfl 23 (.tmp 9) (.tmp 38) rfl _ 64 (sS) rfl rfl 23 _ ((Blk.new W2 64 23 (fun _ => 0))) Try.size23 ?_; try simp only [Act.put]))
 have lt_B0 := B0.lt
 have lt_B1 := B1.lt
 have lt_B2 := B2.lt
 have lt_B3 := B3.lt
 have lhb := hb.size
 obtain ⟨W3, hwo, hzQ⟩ : ∃ v : World, v = ((W2.alloc (.cells (zb 64 (fun _ => 0)) 23)).setRow (W2.heap.size) (zb 64 (sS))) ∧ Blk v (w.heap.size) 64 23 (D) ∧ Row v (w.heap.size + 1) 55 (frC X1 Y1).toArray ∧ Row v (w.heap.size + 1 + 1) 55 (frC X2 Y2).toArray ∧ Row v (w.heap.size + 1 + 1 + 1) 55 (frC (fun _ => 0) (fun _ => 0)).toArray ∧ Blk v (W2.heap.size) 64 23 (sS) ∧ Below w.heap.size w v := ⟨_, rfl, ((B0.alloc (.cells (zb 64 (fun _ => 0)) 23)).rowOther (by omega)), ((B1.alloc (.cells (zb 64 (fun _ => 0)) 23)).rowOther (by omega)), ((B2.alloc (.cells (zb 64 (fun _ => 0)) 23)).rowOther (by omega)), ((B3.alloc (.cells (zb 64 (fun _ => 0)) 23)).rowOther (by omega)), ((Blk.new W2 64 23 (fun _ => 0)).row (sS)), (zr (hb.alloc (by have := hb.size; simp; omega) (.cells (zb 64 (fun _ => 0)) 23)) (by omega) _)⟩
 rw [← hwo]
 clear hwo B0 B1 B2 B3 hb
 obtain ⟨B0, B1, B2, B3, B4, hb⟩ := hzQ
 obtain ⟨N1, hNN⟩ : ∃ n : Nat, n = W2.heap.size := ⟨_, rfl⟩
 rw [← hNN] at lt_B0 lt_B1 lt_B2 lt_B3 lhb B4 ⊢
 clear hNN
 have zN1_0 := lt_B0
 have zN1_1 := lt_B1
 have zN1_2 := lt_B2
 have zN1_3 := lt_B3
 have zN1 := lhb
 clear lt_B0 lt_B1 lt_B2 lt_B3 lhb
 try simp only [Act.put, pA, pB, pC]
 have lt_B0 := B0.lt
 have lt_B1 := B1.lt
 have lt_B2 := B2.lt
 have lt_B3 := B3.lt
 have lt_B4 := B4.lt
 go_upto_region 3 with (first | rw [← z64] | (refine wpList_load_mid rfl 23 (.tmp 41) rfl _ 0 rfl (bl 64 X1) _ (B1.fra) Try.underlying23 rfl (by rw [zl]; exact Try.size23) ?_) | (refine wpList_load_mid rfl 23 (.tmp 43) rfl _ 0 rfl (bl 64 X2) _ (B2.fra) Try.underlying23 rfl (by rw [zl]; exact Try.size23) ?_) | (go_at_call 171; refine (K1.out _).mono ?_; rintro e W4 ⟨rfl, hW4⟩; replace B0 := B0.zw hW4; replace B1 := B1.zw hW4; replace B2 := B2.zw hW4; replace B3 := B3.zw hW4; replace B4 := B4.zw hW4; replace hb := (hb).trans (hW4.mono (hb).size)) | (refine wpList_store_blk rfl 23 (.tmp 10) (.tmp 46) rfl _ 64 (gD) rfl rfl 23 _ ((((Blk.new W4 64 23 (fun _ => 0)).alloc (.cells (zb 64 (fun _ => 0)) 23)).alloc (.cells (zb 64 (fun _ => 0)) 23))) Try.size23 ?_; try simp only [Act.put]) | (refine wpList_store_blk rfl 23 (.tmp 11) (.tmp 47) rfl _ 64 (gU) rfl rfl 23 _ ((((show Blk ((W4.alloc (.cells (zb 64 (fun _ => 0)) 23)).alloc (.cells (zb 64 (fun _ => 0)) 23)) (W4.heap.size + 1) 64 23 (fun _ => 0) by have := Blk.new (W4.alloc (.cells (zb 64 (fun _ => 0)) 23)) 64 23 (fun _ => 0); simpa using this).alloc (.cells (zb 64 (fun _ => 0)) 23)).rowOther (by omega))) Try.size23 ?_; try simp only [Act.put]) | (refine wpList_store_blk rfl 23 (.tmp 12) (.tmp 48) rfl _ 64 (gV) rfl rfl 23 _ ((((show Blk (((W4.alloc (.cells (zb 64 (fun _ => 0)) 23)).alloc (.cells (zb 64 (fun _ => 0)) 23)).alloc (.cells (zb 64 (fun _ => 0)) 23)) (W4.heap.size + 1 + 1) 64 23 (fun _ => 0) by have := Blk.new ((W4.alloc (.cells (zb 64 (fun _ => 0)) 23)).alloc (.cells (zb 64 (fun _ => 0)) 23)) 64 23 (fun _ => 0); simpa using this).rowOther (by omega)).rowOther (by omega))) Try.size23 ?_; try simp only [Act.put]))
 have lt_B0 := B0.lt
 have lt_B1 := B1.lt
 have lt_B2 := B2.lt
 have lt_B3 := B3.lt
 have lt_B4 := B4.lt
 have lhb := hb.size
 obtain ⟨W5, hwo, hzQ⟩ : ∃ v : World, v = ((((((W4.alloc (.cells (zb 64 (fun _ => 0)) 23)).alloc (.cells (zb 64 (fun _ => 0)) 23)).alloc (.cells (zb 64 (fun _ => 0)) 23)).setRow (W4.heap.size) (zb 64 (gD))).setRow (W4.heap.size + 1) (zb 64 (gU))).setRow (W4.heap.size + 1 + 1) (zb 64 (gV))) ∧ Blk v (w.heap.size) 64 23 (D) ∧ Row v (w.heap.size + 1) 55 (frC X1 Y1).toArray ∧ Row v (w.heap.size + 1 + 1) 55 (frC X2 Y2).toArray ∧ Row v (w.heap.size + 1 + 1 + 1) 55 (frC (fun _ => 0) (fun _ => 0)).toArray ∧ Blk v (N1) 64 23 (sS) ∧ Blk v (W4.heap.size) 64 23 (gD) ∧ Blk v (W4.heap.size + 1) 64 23 (gU) ∧ Blk v (W4.heap.size + 1 + 1) 64 23 (gV) ∧ Below w.heap.size w v := ⟨_, rfl, ((((((B0.alloc (.cells (zb 64 (fun _ => 0)) 23)).alloc (.cells (zb 64 (fun _ => 0)) 23)).alloc (.cells (zb 64 (fun _ => 0)) 23)).rowOther (by omega)).rowOther (by omega)).rowOther (by omega)), ((((((B1.alloc (.cells (zb 64 (fun _ => 0)) 23)).alloc (.cells (zb 64 (fun _ => 0)) 23)).alloc (.cells (zb 64 (fun _ => 0)) 23)).rowOther (by omega)).rowOther (by omega)).rowOther (by omega)), ((((((B2.alloc (.cells (zb 64 (fun _ => 0)) 23)).alloc (.cells (zb 64 (fun _ => 0)) 23)).alloc (.cells (zb 64 (fun _ => 0)) 23)).rowOther (by omega)).rowOther (by omega)).rowOther (by omega)), ((((((B3.alloc (.cells (zb 64 (fun _ => 0)) 23)).alloc (.cells (zb 64 (fun _ => 0)) 23)).alloc (.cells (zb 64 (fun _ => 0)) 23)).rowOther (by omega)).rowOther (by omega)).rowOther (by omega)), ((((((B4.alloc (.cells (zb 64 (fun _ => 0)) 23)).alloc (.cells (zb 64 (fun _ => 0)) 23)).alloc (.cells (zb 64 (fun _ => 0)) 23)).rowOther (by omega)).rowOther (by omega)).rowOther (by omega)), ((((((Blk.new W4 64 23 (fun _ => 0)).alloc (.cells (zb 64 (fun _ => 0)) 23)).alloc (.cells (zb 64 (fun _ => 0)) 23)).row (gD)).rowOther (by omega)).rowOther (by omega)), (((((show Blk ((W4.alloc (.cells (zb 64 (fun _ => 0)) 23)).alloc (.cells (zb 64 (fun _ => 0)) 23)) (W4.heap.size + 1) 64 23 (fun _ => 0) by have := Blk.new (W4.alloc (.cells (zb 64 (fun _ => 0)) 23)) 64 23 (fun _ => 0); simpa using this).alloc (.cells (zb 64 (fun _ => 0)) 23)).rowOther (by omega)).row (gU)).rowOther (by omega)), ((((show Blk (((W4.alloc (.cells (zb 64 (fun _ => 0)) 23)).alloc (.cells (zb 64 (fun _ => 0)) 23)).alloc (.cells (zb 64 (fun _ => 0)) 23)) (W4.heap.size + 1 + 1) 64 23 (fun _ => 0) by have := Blk.new ((W4.alloc (.cells (zb 64 (fun _ => 0)) 23)).alloc (.cells (zb 64 (fun _ => 0)) 23)) 64 23 (fun _ => 0); simpa using this).rowOther (by omega)).rowOther (by omega)).row (gV)), (zr (zr (zr (((hb.alloc (by have := hb.size; simp; omega) (.cells (zb 64 (fun _ => 0)) 23)).alloc (by have := hb.size; simp; omega) (.cells (zb 64 (fun _ => 0)) 23)).alloc (by have := hb.size; simp; omega) (.cells (zb 64 (fun _ => 0)) 23)) (by omega) _) (by omega) _) (by omega) _)⟩
 rw [← hwo]
 clear hwo B0 B1 B2 B3 B4 hb
 obtain ⟨B0, B1, B2, B3, B4, B5, B6, B7, hb⟩ := hzQ
 obtain ⟨N2, hNN⟩ : ∃ n : Nat, n = W4.heap.size := ⟨_, rfl⟩
 rw [← hNN] at lt_B0 lt_B1 lt_B2 lt_B3 lt_B4 lhb B5 B6 B7 ⊢
 clear hNN
 have zN2_0 := lt_B0
 have zN2_1 := lt_B1
 have zN2_2 := lt_B2
 have zN2_3 := lt_B3
 have zN2_4 := lt_B4
 have zN2 := lhb
 clear lt_B0 lt_B1 lt_B2 lt_B3 lt_B4 lhb
 try simp only [Act.put, pA, pB, pC]
 have lt_B0 := B0.lt
 have lt_B1 := B1.lt
 have lt_B2 := B2.lt
 have lt_B3 := B3.lt
 have lt_B4 := B4.lt
 have lt_B5 := B5.lt
 have lt_B6 := B6.lt
 have lt_B7 := B7.lt
 go_upto_region 4 with (first | rw [← z64] | (refine zla (.tmp 10) B5 Try.underlying23 Try.size23 ?_) | (refine zla (.tmp 9) B4 Try.underlying23 Try.size23 ?_) | (go_at_call 171; refine (K2.out _).mono ?_; rintro e W6 ⟨rfl, hW6⟩; replace B0 := B0.zw hW6; replace B1 := B1.zw hW6; replace B2 := B2.zw hW6; replace B3 := B3.zw hW6; replace B4 := B4.zw hW6; replace B5 := B5.zw hW6; replace B6 := B6.zw hW6; replace B7 := B7.zw hW6; replace hb := (hb).trans (hW6.mono (hb).size)) | (refine wpList_store_blk rfl 23 (.tmp 13) (.tmp 54) rfl _ 64 (eD) rfl rfl 23 _ ((((Blk.new W6 64 23 (fun _ => 0)).alloc (.cells (zb 64 (fun _ => 0)) 23)).alloc (.cells (zb 64 (fun _ => 0)) 23))) Try.size23 ?_; try simp only [Act.put]) | (refine wpList_store_blk rfl 23 (.tmp 14) (.tmp 55) rfl _ 64 (eU) rfl rfl 23 _ ((((show Blk ((W6.alloc (.cells (zb 64 (fun _ => 0)) 23)).alloc (.cells (zb 64 (fun _ => 0)) 23)) (W6.heap.size + 1) 64 23 (fun _ => 0) by have := Blk.new (W6.alloc (.cells (zb 64 (fun _ => 0)) 23)) 64 23 (fun _ => 0); simpa using this).alloc (.cells (zb 64 (fun _ => 0)) 23)).rowOther (by omega))) Try.size23 ?_; try simp only [Act.put]) | (refine wpList_store_blk rfl 23 (.tmp 15) (.tmp 56) rfl _ 64 (eV) rfl rfl 23 _ ((((show Blk (((W6.alloc (.cells (zb 64 (fun _ => 0)) 23)).alloc (.cells (zb 64 (fun _ => 0)) 23)).alloc (.cells (zb 64 (fun _ => 0)) 23)) (W6.heap.size + 1 + 1) 64 23 (fun _ => 0) by have := Blk.new ((W6.alloc (.cells (zb 64 (fun _ => 0)) 23)).alloc (.cells (zb 64 (fun _ => 0)) 23)) 64 23 (fun _ => 0); simpa using this).rowOther (by omega)).rowOther (by omega))) Try.size23 ?_; try simp only [Act.put]))
 have lt_B0 := B0.lt
 have lt_B1 := B1.lt
 have lt_B2 := B2.lt
 have lt_B3 := B3.lt
 have lt_B4 := B4.lt
 have lt_B5 := B5.lt
 have lt_B6 := B6.lt
 have lt_B7 := B7.lt
 have lhb := hb.size
 obtain ⟨W7, hwo, hzQ⟩ : ∃ v : World, v = ((((((W6.alloc (.cells (zb 64 (fun _ => 0)) 23)).alloc (.cells (zb 64 (fun _ => 0)) 23)).alloc (.cells (zb 64 (fun _ => 0)) 23)).setRow (W6.heap.size) (zb 64 (eD))).setRow (W6.heap.size + 1) (zb 64 (eU))).setRow (W6.heap.size + 1 + 1) (zb 64 (eV))) ∧ Blk v (w.heap.size) 64 23 (D) ∧ Row v (w.heap.size + 1) 55 (frC X1 Y1).toArray ∧ Row v (w.heap.size + 1 + 1) 55 (frC X2 Y2).toArray ∧ Row v (w.heap.size + 1 + 1 + 1) 55 (frC (fun _ => 0) (fun _ => 0)).toArray ∧ Blk v (N1) 64 23 (sS) ∧ Blk v (N2) 64 23 (gD) ∧ Blk v (N2 + 1) 64 23 (gU) ∧ Blk v (N2 + 1 + 1) 64 23 (gV) ∧ Blk v (W6.heap.size) 64 23 (eD) ∧ Blk v (W6.heap.size + 1) 64 23 (eU) ∧ Blk v (W6.heap.size + 1 + 1) 64 23 (eV) ∧ Below w.heap.size w v := ⟨_, rfl, ((((((B0.alloc (.cells (zb 64 (fun _ => 0)) 23)).alloc (.cells (zb 64 (fun _ => 0)) 23)).alloc (.cells (zb 64 (fun _ => 0)) 23)).rowOther (by omega)).rowOther (by omega)).rowOther (by omega)), ((((((B1.alloc (.cells (zb 64 (fun _ => 0)) 23)).alloc (.cells (zb 64 (fun _ => 0)) 23)).alloc (.cells (zb 64 (fun _ => 0)) 23)).rowOther (by omega)).rowOther (by omega)).rowOther (by omega)), ((((((B2.alloc (.cells (zb 64 (fun _ => 0)) 23)).alloc (.cells (zb 64 (fun _ => 0)) 23)).alloc (.cells (zb 64 (fun _ => 0)) 23)).rowOther (by omega)).rowOther (by omega)).rowOther (by omega)), ((((((B3.alloc (.cells (zb 64 (fun _ => 0)) 23)).alloc (.cells (zb 64 (fun _ => 0)) 23)).alloc (.cells (zb 64 (fun _ => 0)) 23)).rowOther (by omega)).rowOther (by omega)).rowOther (by omega)), ((((((B4.alloc (.cells (zb 64 (fun _ => 0)) 23)).alloc (.cells (zb 64 (fun _ => 0)) 23)).alloc (.cells (zb 64 (fun _ => 0)) 23)).rowOther (by omega)).rowOther (by omega)).rowOther (by omega)), ((((((B5.alloc (.cells (zb 64 (fun _ => 0)) 23)).alloc (.cells (zb 64 (fun _ => 0)) 23)).alloc (.cells (zb 64 (fun _ => 0)) 23)).rowOther (by omega)).rowOther (by omega)).rowOther (by omega)), ((((((B6.alloc (.cells (zb 64 (fun _ => 0)) 23)).alloc (.cells (zb 64 (fun _ => 0)) 23)).alloc (.cells (zb 64 (fun _ => 0)) 23)).rowOther (by omega)).rowOther (by omega)).rowOther (by omega)), ((((((B7.alloc (.cells (zb 64 (fun _ => 0)) 23)).alloc (.cells (zb 64 (fun _ => 0)) 23)).alloc (.cells (zb 64 (fun _ => 0)) 23)).rowOther (by omega)).rowOther (by omega)).rowOther (by omega)), ((((((Blk.new W6 64 23 (fun _ => 0)).alloc (.cells (zb 64 (fun _ => 0)) 23)).alloc (.cells (zb 64 (fun _ => 0)) 23)).row (eD)).rowOther (by omega)).rowOther (by omega)), (((((show Blk ((W6.alloc (.cells (zb 64 (fun _ => 0)) 23)).alloc (.cells (zb 64 (fun _ => 0)) 23)) (W6.heap.size + 1) 64 23 (fun _ => 0) by have := Blk.new (W6.alloc (.cells (zb 64 (fun _ => 0)) 23)) 64 23 (fun _ => 0); simpa using this).alloc (.cells (zb 64 (fun _ => 0)) 23)).rowOther (by omega)).row (eU)).rowOther (by omega)), ((((show Blk (((W6.alloc (.cells (zb 64 (fun _ => 0)) 23)).alloc (.cells (zb 64 (fun _ => 0)) 23)).alloc (.cells (zb 64 (fun _ => 0)) 23)) (W6.heap.size + 1 + 1) 64 23 (fun _ => 0) by have := Blk.new ((W6.alloc (.cells (zb 64 (fun _ => 0)) 23)).alloc (.cells (zb 64 (fun _ => 0)) 23)) 64 23 (fun _ => 0); simpa using this).rowOther (by omega)).rowOther (by omega)).row (eV)), (zr (zr (zr (((hb.alloc (by have := hb.size; simp; omega) (.cells (zb 64 (fun _ => 0)) 23)).alloc (by have := hb.size; simp; omega) (.cells (zb 64 (fun _ => 0)) 23)).alloc (by have := hb.size; simp; omega) (.cells (zb 64 (fun _ => 0)) 23)) (by omega) _) (by omega) _) (by omega) _)⟩
 rw [← hwo]
 clear hwo B0 B1 B2 B3 B4 B5 B6 B7 hb
 obtain ⟨B0, B1, B2, B3, B4, B5, B6, B7, B8, B9, B10, hb⟩ := hzQ
 obtain ⟨N3, hNN⟩ : ∃ n : Nat, n = W6.heap.size := ⟨_, rfl⟩
 rw [← hNN] at lt_B0 lt_B1 lt_B2 lt_B3 lt_B4 lt_B5 lt_B6 lt_B7 lhb B8 B9 B10 ⊢
 clear hNN
 have zN3_0 := lt_B0
 have zN3_1 := lt_B1
 have zN3_2 := lt_B2
 have zN3_3 := lt_B3
 have zN3_4 := lt_B4
 have zN3_5 := lt_B5
 have zN3_6 := lt_B6
 have zN3_7 := lt_B7
 have zN3 := lhb
 clear lt_B0 lt_B1 lt_B2 lt_B3 lt_B4 lt_B5 lt_B6 lt_B7 lhb
 try simp only [Act.put, pA, pB, pC]
 have lt_B0 := B0.lt
 have lt_B1 := B1.lt
 have lt_B2 := B2.lt
 have lt_B3 := B3.lt
 have lt_B4 := B4.lt
 have lt_B5 := B5.lt
 have lt_B6 := B6.lt
 have lt_B7 := B7.lt
 have lt_B8 := B8.lt
 have lt_B9 := B9.lt
 have lt_B10 := B10.lt
 go_upto_region 5 with (first | rw [← z64] | (refine zla (.tmp 14) B9 Try.underlying23 Try.size23 ?_) | (refine zla (.tmp 11) B6 Try.underlying23 Try.size23 ?_) | (go_at_call 91; refine (P1.out _).mono ?_; rintro e W8 ⟨rfl, hW8⟩; replace B0 := B0.zw hW8; replace B1 := B1.zw hW8; replace B2 := B2.zw hW8; replace B3 := B3.zw hW8; replace B4 := B4.zw hW8; replace B5 := B5.zw hW8; replace B6 := B6.zw hW8; replace B7 := B7.zw hW8; replace B8 := B8.zw hW8; replace B9 := B9.zw hW8; replace B10 := B10.zw hW8; replace hb := (hb).trans (hW8.mono (hb).size)) | (refine wpList_store_blk rfl 23 (.tmp 16) (.tmp 62) rfl _ 64 (rR) rfl rfl 23 _ ((Blk.new W8 64 23 (fun _ => 0))) Try.size23 ?_; try simp only [Act.put]; go_upto_region 5 with (fail)))
 have lt_B0 := B0.lt
 have lt_B1 := B1.lt
 have lt_B2 := B2.lt
 have lt_B3 := B3.lt
 have lt_B4 := B4.lt
 have lt_B5 := B5.lt
 have lt_B6 := B6.lt
 have lt_B7 := B7.lt
 have lt_B8 := B8.lt
 have lt_B9 := B9.lt
 have lt_B10 := B10.lt
 have lhb := hb.size
 obtain ⟨W9, hwo, hzQ⟩ : ∃ v : World, v = ((W8.alloc (.cells (zb 64 (fun _ => 0)) 23)).setRow (W8.heap.size) (zb 64 (rR))) ∧ Blk v (w.heap.size) 64 23 (D) ∧ Row v (w.heap.size + 1) 55 (frC X1 Y1).toArray ∧ Row v (w.heap.size + 1 + 1) 55 (frC X2 Y2).toArray ∧ Row v (w.heap.size + 1 + 1 + 1) 55 (frC (fun _ => 0) (fun _ => 0)).toArray ∧ Blk v (N1) 64 23 (sS) ∧ Blk v (N2) 64 23 (gD) ∧ Blk v (N2 + 1) 64 23 (gU) ∧ Blk v (N2 + 1 + 1) 64 23 (gV) ∧ Blk v (N3) 64 23 (eD) ∧ Blk v (N3 + 1) 64 23 (eU) ∧ Blk v (N3 + 1 + 1) 64 23 (eV) ∧ Blk v (W8.heap.size) 64 23 (rR) ∧ Below w.heap.size w v := ⟨_, rfl, ((B0.alloc (.cells (zb 64 (fun _ => 0)) 23)).rowOther (by omega)), ((B1.alloc (.cells (zb 64 (fun _ => 0)) 23)).rowOther (by omega)), ((B2.alloc (.cells (zb 64 (fun _ => 0)) 23)).rowOther (by omega)), ((B3.alloc (.cells (zb 64 (fun _ => 0)) 23)).rowOther (by omega)), ((B4.alloc (.cells (zb 64 (fun _ => 0)) 23)).rowOther (by omega)), ((B5.alloc (.cells (zb 64 (fun _ => 0)) 23)).rowOther (by omega)), ((B6.alloc (.cells (zb 64 (fun _ => 0)) 23)).rowOther (by omega)), ((B7.alloc (.cells (zb 64 (fun _ => 0)) 23)).rowOther (by omega)), ((B8.alloc (.cells (zb 64 (fun _ => 0)) 23)).rowOther (by omega)), ((B9.alloc (.cells (zb 64 (fun _ => 0)) 23)).rowOther (by omega)), ((B10.alloc (.cells (zb 64 (fun _ => 0)) 23)).rowOther (by omega)), ((Blk.new W8 64 23 (fun _ => 0)).row (rR)), (zr (hb.alloc (by have := hb.size; simp; omega) (.cells (zb 64 (fun _ => 0)) 23)) (by omega) _)⟩
 rw [← hwo]
 clear hwo B0 B1 B10 B2 B3 B4 B5 B6 B7 B8 B9 hb
 obtain ⟨B0, B1, B2, B3, B4, B5, B6, B7, B8, B9, B10, B11, hb⟩ := hzQ
 obtain ⟨N4, hNN⟩ : ∃ n : Nat, n = W8.heap.size := ⟨_, rfl⟩
 rw [← hNN] at lt_B0 lt_B1 lt_B2 lt_B3 lt_B4 lt_B5 lt_B6 lt_B7 lt_B8 lt_B9 lt_B10 lhb B11 ⊢
 clear hNN
 have zN4_0 := lt_B0
 have zN4_1 := lt_B1
 have zN4_2 := lt_B2
 have zN4_3 := lt_B3
 have zN4_4 := lt_B4
 have zN4_5 := lt_B5
 have zN4_6 := lt_B6
 have zN4_7 := lt_B7
 have zN4_8 := lt_B8
 have zN4_9 := lt_B9
 have zN4_10 := lt_B10
 have zN4 := lhb
 clear lt_B0 lt_B1 lt_B2 lt_B3 lt_B4 lt_B5 lt_B6 lt_B7 lt_B8 lt_B9 lt_B10 lhb
 try simp only [Act.put, pA, pB, pC]
 have lt_B0 := B0.lt
 have lt_B1 := B1.lt
 have lt_B2 := B2.lt
 have lt_B3 := B3.lt
 have lt_B4 := B4.lt
 have lt_B5 := B5.lt
 have lt_B6 := B6.lt
 have lt_B7 := B7.lt
 have lt_B8 := B8.lt
 have lt_B9 := B9.lt
 have lt_B10 := B10.lt
 have lt_B11 := B11.lt
 go_upto_region 6 with (first | rw [← z64] | (refine zla (.tmp 14) B9 Try.underlying23 Try.size23 ?_) | (refine zla (.tmp 12) B7 Try.underlying23 Try.size23 ?_) | (go_at_call 91; refine (P2.out _).mono ?_; rintro e W10 ⟨rfl, hW10⟩; replace B0 := B0.zw hW10; replace B1 := B1.zw hW10; replace B2 := B2.zw hW10; replace B3 := B3.zw hW10; replace B4 := B4.zw hW10; replace B5 := B5.zw hW10; replace B6 := B6.zw hW10; replace B7 := B7.zw hW10; replace B8 := B8.zw hW10; replace B9 := B9.zw hW10; replace B10 := B10.zw hW10; replace B11 := B11.zw hW10; replace hb := (hb).trans (hW10.mono (hb).size)) | (refine wpList_store_blk rfl 23 (.tmp 18) (.tmp 69) rfl _ 64 (rS) rfl rfl 23 _ ((Blk.new W10 64 23 (fun _ => 0))) Try.size23 ?_; try simp only [Act.put]; go_upto_region 6 with (fail)))
 have lt_B0 := B0.lt
 have lt_B1 := B1.lt
 have lt_B2 := B2.lt
 have lt_B3 := B3.lt
 have lt_B4 := B4.lt
 have lt_B5 := B5.lt
 have lt_B6 := B6.lt
 have lt_B7 := B7.lt
 have lt_B8 := B8.lt
 have lt_B9 := B9.lt
 have lt_B10 := B10.lt
 have lt_B11 := B11.lt
 have lhb := hb.size
 obtain ⟨W11, hwo, hzQ⟩ : ∃ v : World, v = ((W10.alloc (.cells (zb 64 (fun _ => 0)) 23)).setRow (W10.heap.size) (zb 64 (rS))) ∧ Blk v (w.heap.size) 64 23 (D) ∧ Row v (w.heap.size + 1) 55 (frC X1 Y1).toArray ∧ Row v (w.heap.size + 1 + 1) 55 (frC X2 Y2).toArray ∧ Row v (w.heap.size + 1 + 1 + 1) 55 (frC (fun _ => 0) (fun _ => 0)).toArray ∧ Blk v (N1) 64 23 (sS) ∧ Blk v (N2) 64 23 (gD) ∧ Blk v (N2 + 1) 64 23 (gU) ∧ Blk v (N2 + 1 + 1) 64 23 (gV) ∧ Blk v (N3) 64 23 (eD) ∧ Blk v (N3 + 1) 64 23 (eU) ∧ Blk v (N3 + 1 + 1) 64 23 (eV) ∧ Blk v (N4) 64 23 (rR) ∧ Blk v (W10.heap.size) 64 23 (rS) ∧ Below w.heap.size w v := ⟨_, rfl, ((B0.alloc (.cells (zb 64 (fun _ => 0)) 23)).rowOther (by omega)), ((B1.alloc (.cells (zb 64 (fun _ => 0)) 23)).rowOther (by omega)), ((B2.alloc (.cells (zb 64 (fun _ => 0)) 23)).rowOther (by omega)), ((B3.alloc (.cells (zb 64 (fun _ => 0)) 23)).rowOther (by omega)), ((B4.alloc (.cells (zb 64 (fun _ => 0)) 23)).rowOther (by omega)), ((B5.alloc (.cells (zb 64 (fun _ => 0)) 23)).rowOther (by omega)), ((B6.alloc (.cells (zb 64 (fun _ => 0)) 23)).rowOther (by omega)), ((B7.alloc (.cells (zb 64 (fun _ => 0)) 23)).rowOther (by omega)), ((B8.alloc (.cells (zb 64 (fun _ => 0)) 23)).rowOther (by omega)), ((B9.alloc (.cells (zb 64 (fun _ => 0)) 23)).rowOther (by omega)), ((B10.alloc (.cells (zb 64 (fun _ => 0)) 23)).rowOther (by omega)), ((B11.alloc (.cells (zb 64 (fun _ => 0)) 23)).rowOther (by omega)), ((Blk.new W10 64 23 (fun _ => 0)).row (rS)), (zr (hb.alloc (by have := hb.size; simp; omega) (.cells (zb 64 (fun _ => 0)) 23)) (by omega) _)⟩
 rw [← hwo]
 clear hwo B0 B1 B10 B11 B2 B3 B4 B5 B6 B7 B8 B9 hb
 obtain ⟨B0, B1, B2, B3, B4, B5, B6, B7, B8, B9, B10, B11, B12, hb⟩ := hzQ
 obtain ⟨N5, hNN⟩ : ∃ n : Nat, n = W10.heap.size := ⟨_, rfl⟩
 rw [← hNN] at lt_B0 lt_B1 lt_B2 lt_B3 lt_B4 lt_B5 lt_B6 lt_B7 lt_B8 lt_B9 lt_B10 lt_B11 lhb B12 ⊢
 clear hNN
 have zN5_0 := lt_B0
 have zN5_1 := lt_B1
 have zN5_2 := lt_B2
 have zN5_3 := lt_B3
 have zN5_4 := lt_B4
 have zN5_5 := lt_B5
 have zN5_6 := lt_B6
 have zN5_7 := lt_B7
 have zN5_8 := lt_B8
 have zN5_9 := lt_B9
 have zN5_10 := lt_B10
 have zN5_11 := lt_B11
 have zN5 := lhb
 clear lt_B0 lt_B1 lt_B2 lt_B3 lt_B4 lt_B5 lt_B6 lt_B7 lt_B8 lt_B9 lt_B10 lt_B11 lhb
 try simp only [Act.put, pA, pB, pC]
 have lt_B0 := B0.lt
 have lt_B1 := B1.lt
 have lt_B2 := B2.lt
 have lt_B3 := B3.lt
 have lt_B4 := B4.lt
 have lt_B5 := B5.lt
 have lt_B6 := B6.lt
 have lt_B7 := B7.lt
 have lt_B8 := B8.lt
 have lt_B9 := B9.lt
 have lt_B10 := B10.lt
 have lt_B11 := B11.lt
 have lt_B12 := B12.lt
 go_upto_region 7 with (first | rw [← z64] | (refine zla (.tmp 13) B8 Try.underlying23 Try.size23 ?_) | (refine zla (.tmp 13) B8 Try.underlying23 Try.size23 ?_) | (go_at_call 91; refine (P10.out _).mono ?_; rintro e W12 ⟨rfl, hW12⟩; replace B0 := B0.zw hW12; replace B1 := B1.zw hW12; replace B2 := B2.zw hW12; replace B3 := B3.zw hW12; replace B4 := B4.zw hW12; replace B5 := B5.zw hW12; replace B6 := B6.zw hW12; replace B7 := B7.zw hW12; replace B8 := B8.zw hW12; replace B9 := B9.zw hW12; replace B10 := B10.zw hW12; replace B11 := B11.zw hW12; replace B12 := B12.zw hW12; replace hb := (hb).trans (hW12.mono (hb).size)) | (refine wpList_store_blk rfl 23 (.tmp 20) (.tmp 76) rfl _ 64 (Ee) rfl rfl 23 _ ((Blk.new W12 64 23 (fun _ => 0))) Try.size23 ?_; try simp only [Act.put]; go_upto_region 7 with (fail)))
 have lt_B0 := B0.lt
 have lt_B1 := B1.lt
 have lt_B2 := B2.lt
 have lt_B3 := B3.lt
 have lt_B4 := B4.lt
 have lt_B5 := B5.lt
 have lt_B6 := B6.lt
 have lt_B7 := B7.lt
 have lt_B8 := B8.lt
 have lt_B9 := B9.lt
 have lt_B10 := B10.lt
 have lt_B11 := B11.lt
 have lt_B12 := B12.lt
 have lhb := hb.size
 obtain ⟨W13, hwo, hzQ⟩ : ∃ v : World, v = ((W12.alloc (.cells (zb 64 (fun _ => 0)) 23)).setRow (W12.heap.size) (zb 64 (Ee))) ∧ Blk v (w.heap.size) 64 23 (D) ∧ Row v (w.heap.size + 1) 55 (frC X1 Y1).toArray ∧ Row v (w.heap.size + 1 + 1) 55 (frC X2 Y2).toArray ∧ Row v (w.heap.size + 1 + 1 + 1) 55 (frC (fun _ => 0) (fun _ => 0)).toArray ∧ Blk v (N1) 64 23 (sS) ∧ Blk v (N2) 64 23 (gD) ∧ Blk v (N2 + 1) 64 23 (gU) ∧ Blk v (N2 + 1 + 1) 64 23 (gV) ∧ Blk v (N3) 64 23 (eD) ∧ Blk v (N3 + 1) 64 23 (eU) ∧ Blk v (N3 + 1 + 1) 64 23 (eV) ∧ Blk v (N4) 64 23 (rR) ∧ Blk v (N5) 64 23 (rS) ∧ Blk v (W12.heap.size) 64 23 (Ee) ∧ Below w.heap.size w v := ⟨_, rfl, ((B0.alloc (.cells (zb 64 (fun _ => 0)) 23)).rowOther (by omega)), ((B1.alloc (.cells (zb 64 (fun _ => 0)) 23)).rowOther (by omega)), ((B2.alloc (.cells (zb 64 (fun _ => 0)) 23)).rowOther (by omega)), ((B3.alloc (.cells (zb 64 (fun _ => 0)) 23)).rowOther (by omega)), ((B4.alloc (.cells (zb 64 (fun _ => 0)) 23)).rowOther (by omega)), ((B5.alloc (.cells (zb 64 (fun _ => 0)) 23)).rowOther (by omega)), ((B6.alloc (.cells (zb 64 (fun _ => 0)) 23)).rowOther (by omega)), ((B7.alloc (.cells (zb 64 (fun _ => 0)) 23)).rowOther (by omega)), ((B8.alloc (.cells (zb 64 (fun _ => 0)) 23)).rowOther (by omega)), ((B9.alloc (.cells (zb 64 (fun _ => 0)) 23)).rowOther (by omega)), ((B10.alloc (.cells (zb 64 (fun _ => 0)) 23)).rowOther (by omega)), ((B11.alloc (.cells (zb 64 (fun _ => 0)) 23)).rowOther (by omega)), ((B12.alloc (.cells (zb 64 (fun _ => 0)) 23)).rowOther (by omega)), ((Blk.new W12 64 23 (fun _ => 0)).row (Ee)), (zr (hb.alloc (by have := hb.size; simp; omega) (.cells (zb 64 (fun _ => 0)) 23)) (by omega) _)⟩
 rw [← hwo]
 clear hwo B0 B1 B10 B11 B12 B2 B3 B4 B5 B6 B7 B8 B9 hb
 obtain ⟨B0, B1, B2, B3, B4, B5, B6, B7, B8, B9, B10, B11, B12, B13, hb⟩ := hzQ
 obtain ⟨N6, hNN⟩ : ∃ n : Nat, n = W12.heap.size := ⟨_, rfl⟩
 rw [← hNN] at lt_B0 lt_B1 lt_B2 lt_B3 lt_B4 lt_B5 lt_B6 lt_B7 lt_B8 lt_B9 lt_B10 lt_B11 lt_B12 lhb B13 ⊢
 clear hNN
 have zN6_0 := lt_B0
 have zN6_1 := lt_B1
 have zN6_2 := lt_B2
 have zN6_3 := lt_B3
 have zN6_4 := lt_B4
 have zN6_5 := lt_B5
 have zN6_6 := lt_B6
 have zN6_7 := lt_B7
 have zN6_8 := lt_B8
 have zN6_9 := lt_B9
 have zN6_10 := lt_B10
 have zN6_11 := lt_B11
 have zN6_12 := lt_B12
 have zN6 := lhb
 clear lt_B0 lt_B1 lt_B2 lt_B3 lt_B4 lt_B5 lt_B6 lt_B7 lt_B8 lt_B9 lt_B10 lt_B11 lt_B12 lhb
 try simp only [Act.put, pA, pB, pC]
 have lt_B0 := B0.lt
 have lt_B1 := B1.lt
 have lt_B2 := B2.lt
 have lt_B3 := B3.lt
 have lt_B4 := B4.lt
 have lt_B5 := B5.lt
 have lt_B6 := B6.lt
 have lt_B7 := B7.lt
 have lt_B8 := B8.lt
 have lt_B9 := B9.lt
 have lt_B10 := B10.lt
 have lt_B11 := B11.lt
 have lt_B12 := B12.lt
 have lt_B13 := B13.lt
 go_upto_region 8 with (first | rw [← z64] | (refine wpList_load_mid rfl 23 (.tmp 80) rfl _ 0 rfl (bl 64 X1) _ (B1.fra) Try.underlying23 rfl (by rw [zl]; exact Try.size23) ?_) | (refine wpList_load_mid rfl 23 (.tmp 82) rfl _ 0 rfl (bl 64 X2) _ (B2.fra) Try.underlying23 rfl (by rw [zl]; exact Try.size23) ?_) | (go_at_call 91; refine (P9.out _).mono ?_; rintro e W14 ⟨rfl, hW14⟩; replace B0 := B0.zw hW14; replace B1 := B1.zw hW14; replace B2 := B2.zw hW14; replace B3 := B3.zw hW14; replace B4 := B4.zw hW14; replace B5 := B5.zw hW14; replace B6 := B6.zw hW14; replace B7 := B7.zw hW14; replace B8 := B8.zw hW14; replace B9 := B9.zw hW14; replace B10 := B10.zw hW14; replace B11 := B11.zw hW14; replace B12 := B12.zw hW14; replace B13 := B13.zw hW14; replace hb := (hb).trans (hW14.mono (hb).size)) | (refine wpList_store_blk rfl 23 (.tmp 22) (.tmp 85) rfl _ 64 (Aa) rfl rfl 23 _ ((Blk.new W14 64 23 (fun _ => 0))) Try.size23 ?_; try simp only [Act.put]; go_upto_region 8 with (fail)))
 have lt_B0 := B0.lt
 have lt_B1 := B1.lt
 have lt_B2 := B2.lt
 have lt_B3 := B3.lt
 have lt_B4 := B4.lt
 have lt_B5 := B5.lt
 have lt_B6 := B6.lt
 have lt_B7 := B7.lt
 have lt_B8 := B8.lt
 have lt_B9 := B9.lt
 have lt_B10 := B10.lt
 have lt_B11 := B11.lt
 have lt_B12 := B12.lt
 have lt_B13 := B13.lt
 have lhb := hb.size
 obtain ⟨W15, hwo, hzQ⟩ : ∃ v : World, v = ((W14.alloc (.cells (zb 64 (fun _ => 0)) 23)).setRow (W14.heap.size) (zb 64 (Aa))) ∧ Blk v (w.heap.size) 64 23 (D) ∧ Row v (w.heap.size + 1) 55 (frC X1 Y1).toArray ∧ Row v (w.heap.size + 1 + 1) 55 (frC X2 Y2).toArray ∧ Row v (w.heap.size + 1 + 1 + 1) 55 (frC (fun _ => 0) (fun _ => 0)).toArray ∧ Blk v (N1) 64 23 (sS) ∧ Blk v (N2) 64 23 (gD) ∧ Blk v (N2 + 1) 64 23 (gU) ∧ Blk v (N2 + 1 + 1) 64 23 (gV) ∧ Blk v (N3) 64 23 (eD) ∧ Blk v (N3 + 1) 64 23 (eU) ∧ Blk v (N3 + 1 + 1) 64 23 (eV) ∧ Blk v (N4) 64 23 (rR) ∧ Blk v (N5) 64 23 (rS) ∧ Blk v (N6) 64 23 (Ee) ∧ Blk v (W14.heap.size) 64 23 (Aa) ∧ Below w.heap.size w v := ⟨_, rfl, ((B0.alloc (.cells (zb 64 (fun _ => 0)) 23)).rowOther (by omega)), ((B1.alloc (.cells (zb 64 (fun _ => 0)) 23)).rowOther (by omega)), ((B2.alloc (.cells (zb 64 (fun _ => 0)) 23)).rowOther (by omega)), ((B3.alloc (.cells (zb 64 (fun _ => 0)) 23)).rowOther (by omega)), ((B4.alloc (.cells (zb 64 (fun _ => 0)) 23)).rowOther (by omega)), ((B5.alloc (.cells (zb 64 (fun _ => 0)) 23)).rowOther (by omega)), ((B6.alloc (.cells (zb 64 (fun _ => 0)) 23)).rowOther (by omega)), ((B7.alloc (.cells (zb 64 (fun _ => 0)) 23)).rowOther (by omega)), ((B8.alloc (.cells (zb 64 (fun _ => 0)) 23)).rowOther (by omega)), ((B9.alloc (.cells (zb 64 (fun _ => 0)) 23)).rowOther (by omega)), ((B10.alloc (.cells (zb 64 (fun _ => 0)) 23)).rowOther (by omega)), ((B11.alloc (.cells (zb 64 (fun _ => 0)) 23)).rowOther (by omega)), ((B12.alloc (.cells (zb 64 (fun _ => 0)) 23)).rowOther (by omega)), ((B13.alloc (.cells (zb 64 (fun _ => 0)) 23)).rowOther (by omega)), ((Blk.new W14 64 23 (fun _ => 0)).row (Aa)), (zr (hb.alloc (by have := hb.size; simp; omega) (.cells (zb 64 (fun _ => 0)) 23)) (by omega) _)⟩
 rw [← hwo]
 clear hwo B0 B1 B10 B11 B12 B13 B2 B3 B4 B5 B6 B7 B8 B9 hb
 obtain ⟨B0, B1, B2, B3, B4, B5, B6, B7, B8, B9, B10, B11, B12, B13, B14, hb⟩ := hzQ
 obtain ⟨N7, hNN⟩ : ∃ n : Nat, n = W14.heap.size := ⟨_, rfl⟩
 rw [← hNN] at lt_B0 lt_B1 lt_B2 lt_B3 lt_B4 lt_B5 lt_B6 lt_B7 lt_B8 lt_B9 lt_B10 lt_B11 lt_B12 lt_B13 lhb B14 ⊢
 clear hNN
 have zN7_0 := lt_B0
 have zN7_1 := lt_B1
 have zN7_2 := lt_B2
 have zN7_3 := lt_B3
 have zN7_4 := lt_B4
 have zN7_5 := lt_B5
 have zN7_6 := lt_B6
 have zN7_7 := lt_B7
 have zN7_8 := lt_B8
 have zN7_9 := lt_B9
 have zN7_10 := lt_B10
 have zN7_11 := lt_B11
 have zN7_12 := lt_B12
 have zN7_13 := lt_B13
 have zN7 := lhb
 clear lt_B0 lt_B1 lt_B2 lt_B3 lt_B4 lt_B5 lt_B6 lt_B7 lt_B8 lt_B9 lt_B10 lt_B11 lt_B12 lt_B13 lhb
 try simp only [Act.put, pA, pB, pC]
 have lt_B0 := B0.lt
 have lt_B1 := B1.lt
 have lt_B2 := B2.lt
 have lt_B3 := B3.lt
 have lt_B4 := B4.lt
 have lt_B5 := B5.lt
 have lt_B6 := B6.lt
 have lt_B7 := B7.lt
 have lt_B8 := B8.lt
 have lt_B9 := B9.lt
 have lt_B10 := B10.lt
 have lt_B11 := B11.lt
 have lt_B12 := B12.lt
 have lt_B13 := B13.lt
 have lt_B14 := B14.lt
 go_upto_region 9 with (first | rw [← z64] | (refine zla (.tmp 22) B14 Try.underlying23 Try.size23 ?_) | (refine zla (.tmp 20) B13 Try.underlying23 Try.size23 ?_) | (go_at_call 155; refine (Q2.out _).mono ?_; rintro e W16 ⟨rfl, hW16⟩; replace B0 := B0.zw hW16; replace B1 := B1.zw hW16; replace B2 := B2.zw hW16; replace B3 := B3.zw hW16; replace B4 := B4.zw hW16; replace B5 := B5.zw hW16; replace B6 := B6.zw hW16; replace B7 := B7.zw hW16; replace B8 := B8.zw hW16; replace B9 := B9.zw hW16; replace B10 := B10.zw hW16; replace B11 := B11.zw hW16; replace B12 := B12.zw hW16; replace B13 := B13.zw hW16; replace B14 := B14.zw hW16; replace hb := (hb).trans (hW16.mono (hb).size)) | (refine wpList_store_blk rfl 23 (.tmp 24) (.tmp 92) rfl _ 64 (Ac) rfl rfl 23 _ (((Blk.new W16 64 23 (fun _ => 0)).alloc (.cells (zb 64 (fun _ => 0)) 23))) Try.size23 ?_; try simp only [Act.put]) | (refine wpList_store_blk rfl 23 (.tmp 25) (.tmp 93) rfl _ 64 (resP p Aa Ee) rfl rfl 23 _ (((show Blk ((W16.alloc (.cells (zb 64 (fun _ => 0)) 23)).alloc (.cells (zb 64 (fun _ => 0)) 23)) (W16.heap.size + 1) 64 23 (fun _ => 0) by have := Blk.new (W16.alloc (.cells (zb 64 (fun _ => 0)) 23)) 64 23 (fun _ => 0); simpa using this).rowOther (by omega))) Try.size23 ?_; try simp only [Act.put]))
 have lt_B0 := B0.lt
 have lt_B1 := B1.lt
 have lt_B2 := B2.lt
 have lt_B3 := B3.lt
 have lt_B4 := B4.lt
 have lt_B5 := B5.lt
 have lt_B6 := B6.lt
 have lt_B7 := B7.lt
 have lt_B8 := B8.lt
 have lt_B9 := B9.lt
 have lt_B10 := B10.lt
 have lt_B11 := B11.lt
 have lt_B12 := B12.lt
 have lt_B13 := B13.lt
 have lt_B14 := B14.lt
 have lhb := hb.size
 obtain ⟨W17, hwo, hzQ⟩ : ∃ v : World, v = ((((W16.alloc (.cells (zb 64 (fun _ => 0)) 23)).alloc (.cells (zb 64 (fun _ => 0)) 23)).setRow (W16.heap.size) (zb 64 (Ac))).setRow (W16.heap.size + 1) (zb 64 (resP p Aa Ee))) ∧ Blk v (w.heap.size) 64 23 (D) ∧ Row v (w.heap.size + 1) 55 (frC X1 Y1).toArray ∧ Row v (w.heap.size + 1 + 1) 55 (frC X2 Y2).toArray ∧ Row v (w.heap.size + 1 + 1 + 1) 55 (frC (fun _ => 0) (fun _ => 0)).toArray ∧ Blk v (N1) 64 23 (sS) ∧ Blk v (N2) 64 23 (gD) ∧ Blk v (N2 + 1) 64 23 (gU) ∧ Blk v (N2 + 1 + 1) 64 23 (gV) ∧ Blk v (N3) 64 23 (eD) ∧ Blk v (N3 + 1) 64 23 (eU) ∧ Blk v (N3 + 1 + 1) 64 23 (eV) ∧ Blk v (N4) 64 23 (rR) ∧ Blk v (N5) 64 23 (rS) ∧ Blk v (N6) 64 23 (Ee) ∧ Blk v (N7) 64 23 (Aa) ∧ Blk v (W16.heap.size) 64 23 (Ac) ∧ Blk v (W16.heap.size + 1) 64 23 (resP p Aa Ee) ∧ Below w.heap.size w v := ⟨_, rfl, ((((B0.alloc (.cells (zb 64 (fun _ => 0)) 23)).alloc (.cells (zb 64 (fun _ => 0)) 23)).rowOther (by omega)).rowOther (by omega)), ((((B1.alloc (.cells (zb 64 (fun _ => 0)) 23)).alloc (.cells (zb 64 (fun _ => 0)) 23)).rowOther (by omega)).rowOther (by omega)), ((((B2.alloc (.cells (zb 64 (fun _ => 0)) 23)).alloc (.cells (zb 64 (fun _ => 0)) 23)).rowOther (by omega)).rowOther (by omega)), ((((B3.alloc (.cells (zb 64 (fun _ => 0)) 23)).alloc (.cells (zb 64 (fun _ => 0)) 23)).rowOther (by omega)).rowOther (by omega)), ((((B4.alloc (.cells (zb 64 (fun _ => 0)) 23)).alloc (.cells (zb 64 (fun _ => 0)) 23)).rowOther (by omega)).rowOther (by omega)), ((((B5.alloc (.cells (zb 64 (fun _ => 0)) 23)).alloc (.cells (zb 64 (fun _ => 0)) 23)).rowOther (by omega)).rowOther (by omega)), ((((B6.alloc (.cells (zb 64 (fun _ => 0)) 23)).alloc (.cells (zb 64 (fun _ => 0)) 23)).rowOther (by omega)).rowOther (by omega)), ((((B7.alloc (.cells (zb 64 (fun _ => 0)) 23)).alloc (.cells (zb 64 (fun _ => 0)) 23)).rowOther (by omega)).rowOther (by omega)), ((((B8.alloc (.cells (zb 64 (fun _ => 0)) 23)).alloc (.cells (zb 64 (fun _ => 0)) 23)).rowOther (by omega)).rowOther (by omega)), ((((B9.alloc (.cells (zb 64 (fun _ => 0)) 23)).alloc (.cells (zb 64 (fun _ => 0)) 23)).rowOther (by omega)).rowOther (by omega)), ((((B10.alloc (.cells (zb 64 (fun _ => 0)) 23)).alloc (.cells (zb 64 (fun _ => 0)) 23)).rowOther (by omega)).rowOther (by omega)), ((((B11.alloc (.cells (zb 64 (fun _ => 0)) 23)).alloc (.cells (zb 64 (fun _ => 0)) 23)).rowOther (by omega)).rowOther (by omega)), ((((B12.alloc (.cells (zb 64 (fun _ => 0)) 23)).alloc (.cells (zb 64 (fun _ => 0)) 23)).rowOther (by omega)).rowOther (by omega)), ((((B13.alloc (.cells (zb 64 (fun _ => 0)) 23)).alloc (.cells (zb 64 (fun _ => 0)) 23)).rowOther (by omega)).rowOther (by omega)), ((((B14.alloc (.cells (zb 64 (fun _ => 0)) 23)).alloc (.cells (zb 64 (fun _ => 0)) 23)).rowOther (by omega)).rowOther (by omega)), ((((Blk.new W16 64 23 (fun _ => 0)).alloc (.cells (zb 64 (fun _ => 0)) 23)).row (Ac)).rowOther (by omega)), (((show Blk ((W16.alloc (.cells (zb 64 (fun _ => 0)) 23)).alloc (.cells (zb 64 (fun _ => 0)) 23)) (W16.heap.size + 1) 64 23 (fun _ => 0) by have := Blk.new (W16.alloc (.cells (zb 64 (fun _ => 0)) 23)) 64 23 (fun _ => 0); simpa using this).rowOther (by omega)).row (resP p Aa Ee)), (zr (zr ((hb.alloc (by have := hb.size; simp; omega) (.cells (zb 64 (fun _ => 0)) 23)).alloc (by have := hb.size; simp; omega) (.cells (zb 64 (fun _ => 0)) 23)) (by omega) _) (by omega) _)⟩
 rw [← hwo]
 clear hwo B0 B1 B10 B11 B12 B13 B14 B2 B3 B4 B5 B6 B7 B8 B9 hb
 obtain ⟨B0, B1, B2, B3, B4, B5, B6, B7, B8, B9, B10, B11, B12, B13, B14, B15, B16, hb⟩ := hzQ
 obtain ⟨N8, hNN⟩ : ∃ n : Nat, n = W16.heap.size := ⟨_, rfl⟩
 rw [← hNN] at lt_B0 lt_B1 lt_B2 lt_B3 lt_B4 lt_B5 lt_B6 lt_B7 lt_B8 lt_B9 lt_B10 lt_B11 lt_B12 lt_B13 lt_B14 lhb B15 B16 ⊢
 clear hNN
 have zN8_0 := lt_B0
 have zN8_1 := lt_B1
 have zN8_2 := lt_B2
 have zN8_3 := lt_B3
 have zN8_4 := lt_B4
 have zN8_5 := lt_B5
 have zN8_6 := lt_B6
 have zN8_7 := lt_B7
 have zN8_8 := lt_B8
 have zN8_9 := lt_B9
 have zN8_10 := lt_B10
 have zN8_11 := lt_B11
 have zN8_12 := lt_B12
 have zN8_13 := lt_B13
 have zN8_14 := lt_B14
 have zN8 := lhb
 clear lt_B0 lt_B1 lt_B2 lt_B3 lt_B4 lt_B5 lt_B6 lt_B7 lt_B8 lt_B9 lt_B10 lt_B11 lt_B12 lt_B13 lt_B14 lhb
 try simp only [Act.put, pA, pB, pC]
 have lt_B0 := B0.lt
 have lt_B1 := B1.lt
 have lt_B2 := B2.lt
 have lt_B3 := B3.lt
 have lt_B4 := B4.lt
 have lt_B5 := B5.lt
 have lt_B6 := B6.lt
 have lt_B7 := B7.lt
 have lt_B8 := B8.lt
 have lt_B9 := B9.lt
 have lt_B10 := B10.lt
 have lt_B11 := B11.lt
 have lt_B12 := B12.lt
 have lt_B13 := B13.lt
 have lt_B14 := B14.lt
 have lt_B15 := B15.lt
 have lt_B16 := B16.lt
 go_upto_region 10 with (first | rw [← z64] | (refine wpList_load_mid rfl 23 (.tmp 96) rfl _ 64 rfl (bl 64 Y1) _ (B1.frb) Try.underlying23 rfl (by rw [zl]; exact Try.size23) ?_) | (refine wpList_load_mid rfl 23 (.tmp 98) rfl _ 64 rfl (bl 64 Y2) _ (B2.frb) Try.underlying23 rfl (by rw [zl]; exact Try.size23) ?_) | (go_at_call 91; refine (P7.out _).mono ?_; rintro e W18 ⟨rfl, hW18⟩; replace B0 := B0.zw hW18; replace B1 := B1.zw hW18; replace B2 := B2.zw hW18; replace B3 := B3.zw hW18; replace B4 := B4.zw hW18; replace B5 := B5.zw hW18; replace B6 := B6.zw hW18; replace B7 := B7.zw hW18; replace B8 := B8.zw hW18; replace B9 := B9.zw hW18; replace B10 := B10.zw hW18; replace B11 := B11.zw hW18; replace B12 := B12.zw hW18; replace B13 := B13.zw hW18; replace B14 := B14.zw hW18; replace B15 := B15.zw hW18; replace B16 := B16.zw hW18; replace hb := (hb).trans (hW18.mono (hb).size)) | (refine wpList_store_blk rfl 23 (.tmp 26) (.tmp 101) rfl _ 64 (mc) rfl rfl 23 _ ((Blk.new W18 64 23 (fun _ => 0))) Try.size23 ?_; try simp only [Act.put]; go_upto_region 10 with (fail)))
 have lt_B0 := B0.lt
 have lt_B1 := B1.lt
 have lt_B2 := B2.lt
 have lt_B3 := B3.lt
 have lt_B4 := B4.lt
 have lt_B5 := B5.lt
 have lt_B6 := B6.lt
 have lt_B7 := B7.lt
 have lt_B8 := B8.lt
 have lt_B9 := B9.lt
 have lt_B10 := B10.lt
 have lt_B11 := B11.lt
 have lt_B12 := B12.lt
 have lt_B13 := B13.lt
 have lt_B14 := B14.lt
 have lt_B15 := B15.lt
 have lt_B16 := B16.lt
 have lhb := hb.size
 obtain ⟨W19, hwo, hzQ⟩ : ∃ v : World, v = ((W18.alloc (.cells (zb 64 (fun _ => 0)) 23)).setRow (W18.heap.size) (zb 64 (mc))) ∧ Blk v (w.heap.size) 64 23 (D) ∧ Row v (w.heap.size + 1) 55 (frC X1 Y1).toArray ∧ Row v (w.heap.size + 1 + 1) 55 (frC X2 Y2).toArray ∧ Row v (w.heap.size + 1 + 1 + 1) 55 (frC (fun _ => 0) (fun _ => 0)).toArray ∧ Blk v (N1) 64 23 (sS) ∧ Blk v (N2) 64 23 (gD) ∧ Blk v (N2 + 1) 64 23 (gU) ∧ Blk v (N2 + 1 + 1) 64 23 (gV) ∧ Blk v (N3) 64 23 (eD) ∧ Blk v (N3 + 1) 64 23 (eU) ∧ Blk v (N3 + 1 + 1) 64 23 (eV) ∧ Blk v (N4) 64 23 (rR) ∧ Blk v (N5) 64 23 (rS) ∧ Blk v (N6) 64 23 (Ee) ∧ Blk v (N7) 64 23 (Aa) ∧ Blk v (N8) 64 23 (Ac) ∧ Blk v (N8 + 1) 64 23 (resP p Aa Ee) ∧ Blk v (W18.heap.size) 64 23 (mc) ∧ Below w.heap.size w v := ⟨_, rfl, ((B0.alloc (.cells (zb 64 (fun _ => 0)) 23)).rowOther (by omega)), ((B1.alloc (.cells (zb 64 (fun _ => 0)) 23)).rowOther (by omega)), ((B2.alloc (.cells (zb 64 (fun _ => 0)) 23)).rowOther (by omega)), ((B3.alloc (.cells (zb 64 (fun _ => 0)) 23)).rowOther (by omega)), ((B4.alloc (.cells (zb 64 (fun _ => 0)) 23)).rowOther (by omega)), ((B5.alloc (.cells (zb 64 (fun _ => 0)) 23)).rowOther (by omega)), ((B6.alloc (.cells (zb 64 (fun _ => 0)) 23)).rowOther (by omega)), ((B7.alloc (.cells (zb 64 (fun _ => 0)) 23)).rowOther (by omega)), ((B8.alloc (.cells (zb 64 (fun _ => 0)) 23)).rowOther (by omega)), ((B9.alloc (.cells (zb 64 (fun _ => 0)) 23)).rowOther (by omega)), ((B10.alloc (.cells (zb 64 (fun _ => 0)) 23)).rowOther (by omega)), ((B11.alloc (.cells (zb 64 (fun _ => 0)) 23)).rowOther (by omega)), ((B12.alloc (.cells (zb 64 (fun _ => 0)) 23)).rowOther (by omega)), ((B13.alloc (.cells (zb 64 (fun _ => 0)) 23)).rowOther (by omega)), ((B14.alloc (.cells (zb 64 (fun _ => 0)) 23)).rowOther (by omega)), ((B15.alloc (.cells (zb 64 (fun _ => 0)) 23)).rowOther (by omega)), ((B16.alloc (.cells (zb 64 (fun _ => 0)) 23)).rowOther (by omega)), ((Blk.new W18 64 23 (fun _ => 0)).row (mc)), (zr (hb.alloc (by have := hb.size; simp; omega) (.cells (zb 64 (fun _ => 0)) 23)) (by omega) _)⟩
 rw [← hwo]
 clear hwo B0 B1 B10 B11 B12 B13 B14 B15 B16 B2 B3 B4 B5 B6 B7 B8 B9 hb
 obtain ⟨B0, B1, B2, B3, B4, B5, B6, B7, B8, B9, B10, B11, B12, B13, B14, B15, B16, B17, hb⟩ := hzQ
 obtain ⟨N9, hNN⟩ : ∃ n : Nat, n = W18.heap.size := ⟨_, rfl⟩
 rw [← hNN] at lt_B0 lt_B1 lt_B2 lt_B3 lt_B4 lt_B5 lt_B6 lt_B7 lt_B8 lt_B9 lt_B10 lt_B11 lt_B12 lt_B13 lt_B14 lt_B15 lt_B16 lhb B17 ⊢
 clear hNN
 have zN9_0 := lt_B0
 have zN9_1 := lt_B1
 have zN9_2 := lt_B2
 have zN9_3 := lt_B3
 have zN9_4 := lt_B4
 have zN9_5 := lt_B5
 have zN9_6 := lt_B6
 have zN9_7 := lt_B7
 have zN9_8 := lt_B8
 have zN9_9 := lt_B9
 have zN9_10 := lt_B10
 have zN9_11 := lt_B11
 have zN9_12 := lt_B12
 have zN9_13 := lt_B13
 have zN9_14 := lt_B14
 have zN9_15 := lt_B15
 have zN9_16 := lt_B16
 have zN9 := lhb
 clear lt_B0 lt_B1 lt_B2 lt_B3 lt_B4 lt_B5 lt_B6 lt_B7 lt_B8 lt_B9 lt_B10 lt_B11 lt_B12 lt_B13 lt_B14 lt_B15 lt_B16 lhb
 try simp only [Act.put, pA, pB, pC]
 have lt_B0 : (w.heap.size) < W19.heap.size := B0.lt
 have lt_B1 : (w.heap.size + 1) < W19.heap.size := B1.lt
 have lt_B2 : (w.heap.size + 1 + 1) < W19.heap.size := B2.lt
 have lt_B3 : (w.heap.size + 1 + 1 + 1) < W19.heap.size := B3.lt
 have lt_B4 : (N1) < W19.heap.size := B4.lt
 have lt_B5 : (N2) < W19.heap.size := B5.lt
 have lt_B6 : (N2 + 1) < W19.heap.size := B6.lt
 have lt_B7 : (N2 + 1 + 1) < W19.heap.size := B7.lt
 have lt_B8 : (N3) < W19.heap.size := B8.lt
 have lt_B9 : (N3 + 1) < W19.heap.size := B9.lt
 have lt_B10 : (N3 + 1 + 1) < W19.heap.size := B10.lt
 have lt_B11 : (N4) < W19.heap.size := B11.lt
 have lt_B12 : (N5) < W19.heap.size := B12.lt
 have lt_B13 : (N6) < W19.heap.size := B13.lt
 have lt_B14 : (N7) < W19.heap.size := B14.lt
 have lt_B15 : (N8) < W19.heap.size := B15.lt
 have lt_B16 : (N8 + 1) < W19.heap.size := B16.lt
 have lt_B17 : (N9) < W19.heap.size := B17.lt
 refine zq Try.mixed (by kernel_rfl) (by kernel_rfl) (fun v => by (simp only [frL, Act.put, pA, pB, pC, Nat.reduceAdd, Nat.zero_add]; exact rfl))
  (fun L v W20 => Below W19.heap.size W19 W20 ∧ (L 16 = true → AF (v 16) W20 W19.heap.size 64 23) ∧ (L 17 = true → PF (v 16) W20 W19.heap.size 64 23 (oc)) ∧ VF L v [some (.int .i64 (p : Int)), some (.int .i64 (p : Int)), some (.agg (zb 64 (rR))), some (.pointer (some ⟨w.heap.size + 1, 0, none⟩)), some (.agg (zb 64 (X1))), some (.pointer (some ⟨w.heap.size + 1 + 1, 64, none⟩)), some (.agg (zb 64 (Y2))), some (.agg (zb 64 (oa))), some (.int .i64 (p : Int)), some (.agg (zb 64 (rS))), some (.pointer (some ⟨w.heap.size + 1 + 1, 0, none⟩)), some (.agg (zb 64 (X2))), some (.pointer (some ⟨w.heap.size + 1, 64, none⟩)), some (.agg (zb 64 (Y1))), some (.agg (zb 64 (ob))), some (.agg (zb 64 (oc))), none, none]) ?_ ?_ ?_
 · intro v hv0
   exact ⟨(Below.refl _ W19).drew, (fun h => by cases h), (fun h => by cases h), VF.start⟩
 · refine (.cons rfl ?_ (.cons rfl ?_ (.cons rfl ?_ (.cons rfl ?_ (.cons rfl ?_ (.cons rfl ?_ (.cons rfl ?_ (.cons rfl ?_ (.cons rfl ?_ (.cons rfl ?_ (.cons rfl ?_ (.cons rfl ?_ (.cons rfl ?_ (.cons rfl ?_ (.cons rfl ?_ (.cons rfl ?_ (.cons rfl ?_ (.cons rfl ?_ (.nil _)))))))))))))))))))
   all_goals intro L v W20 hd hn ⟨hY, h16, h17, V⟩ K hK
   · go_wp2_with fail
     exact hK _ (.int .i64 (p : Int)) _ (by simp only [Act.put, pA, pB, pC ]) ⟨hY, h16, h17, V.step 0 rfl⟩
   · go_wp2_with fail
     exact hK _ (.int .i64 (p : Int)) _ (by simp only [Act.put, pA, pB, pC ]) ⟨hY, h16, h17, V.step 1 rfl⟩
   · refine zlc (B11.zw hY) Try.underlying23 Try.size23 ?_
     exact hK _ _ _ rfl ⟨hY, h16, h17, V.step 2 rfl⟩
   · go_wp2_with fail
     exact hK _ (.pointer (some ⟨w.heap.size + 1, 0, none⟩)) _ (by simp only [Act.put, pA, pB, pC ]) ⟨hY, h16, h17, V.step 3 rfl⟩
   · have e3 := V.at (zdq hd 3 rfl) rfl
     refine wp_load_mid 23 _ rfl _ 0 e3 _ _ ((B1.zw hY).fra) Try.underlying23 rfl (by rw [zl]; exact Try.size23) ?_
     exact hK _ _ _ rfl ⟨hY, h16, h17, V.step 4 rfl⟩
   · go_wp2_with fail
     exact hK _ (.pointer (some ⟨w.heap.size + 1 + 1, 64, none⟩)) _ (by simp only [Act.put, pA, pB, pC ]) ⟨hY, h16, h17, V.step 5 rfl⟩
   · have e5 := V.at (zdq hd 5 rfl) rfl
     refine wp_load_mid 23 _ rfl _ 64 e5 _ _ ((B2.zw hY).frb) Try.underlying23 rfl (by rw [zl]; exact Try.size23) ?_
     exact hK _ _ _ rfl ⟨hY, h16, h17, V.step 6 rfl⟩
   · have e1 := V.at (zdq hd 1 rfl) rfl
     have e2 := V.at (zdq hd 2 rfl) rfl
     have e4 := V.at (zdq hd 4 rfl) rfl
     have e6 := V.at (zdq hd 6 rfl) rfl
     go_wp2_with (go_at_call 172; refine (O1.out _).mono ?_; rintro e wy ⟨rfl, hy⟩)
     exact hK _ (.agg (zb 64 (oa))) _ (by simp only [Act.put, pA, pB, pC, e1, e2, e4, e6]) ⟨hY.trans (hy.mono hY.size), (fun h => (h16 h).below hy), (fun h => (h17 h).below hy), V.step 7 rfl⟩
   · go_wp2_with fail
     exact hK _ (.int .i64 (p : Int)) _ (by simp only [Act.put, pA, pB, pC ]) ⟨hY, h16, h17, V.step 8 rfl⟩
   · refine zlc (B12.zw hY) Try.underlying23 Try.size23 ?_
     exact hK _ _ _ rfl ⟨hY, h16, h17, V.step 9 rfl⟩
   · go_wp2_with fail
     exact hK _ (.pointer (some ⟨w.heap.size + 1 + 1, 0, none⟩)) _ (by simp only [Act.put, pA, pB, pC ]) ⟨hY, h16, h17, V.step 10 rfl⟩
   · have e10 := V.at (zdq hd 10 rfl) rfl
     refine wp_load_mid 23 _ rfl _ 0 e10 _ _ ((B2.zw hY).fra) Try.underlying23 rfl (by rw [zl]; exact Try.size23) ?_
     exact hK _ _ _ rfl ⟨hY, h16, h17, V.step 11 rfl⟩
   · go_wp2_with fail
     exact hK _ (.pointer (some ⟨w.heap.size + 1, 64, none⟩)) _ (by simp only [Act.put, pA, pB, pC ]) ⟨hY, h16, h17, V.step 12 rfl⟩
   · have e12 := V.at (zdq hd 12 rfl) rfl
     refine wp_load_mid 23 _ rfl _ 64 e12 _ _ ((B1.zw hY).frb) Try.underlying23 rfl (by rw [zl]; exact Try.size23) ?_
     exact hK _ _ _ rfl ⟨hY, h16, h17, V.step 13 rfl⟩
   · have e8 := V.at (zdq hd 8 rfl) rfl
     have e9 := V.at (zdq hd 9 rfl) rfl
     have e11 := V.at (zdq hd 11 rfl) rfl
     have e13 := V.at (zdq hd 13 rfl) rfl
     go_wp2_with (go_at_call 172; refine (O2.out _).mono ?_; rintro e wy ⟨rfl, hy⟩)
     exact hK _ (.agg (zb 64 (ob))) _ (by simp only [Act.put, pA, pB, pC, e8, e9, e11, e13]) ⟨hY.trans (hy.mono hY.size), (fun h => (h16 h).below hy), (fun h => (h17 h).below hy), V.step 14 rfl⟩
   · have e0 := V.at (zdq hd 0 rfl) rfl
     have e7 := V.at (zdq hd 7 rfl) rfl
     have e14 := V.at (zdq hd 14 rfl) rfl
     go_wp2_with (go_at_call 153; refine (S2.out _).mono ?_; rintro e wy ⟨rfl, hy⟩)
     exact hK _ (.agg (zb 64 (oc))) _ (by simp only [Act.put, pA, pB, pC, e0, e7, e14]) ⟨hY.trans (hy.mono hY.size), (fun h => (h16 h).below hy), (fun h => (h17 h).below hy), V.step 15 rfl⟩
   · go_wp2_with fail
     rw [← z64]
     exact hK _ (.pointer (some ⟨W20.heap.size, 0, none⟩)) _ (by simp only [Act.put, pA, pB, pC ]) ⟨hY.alloc hY.size _, (fun _ => (PF.new W20 64 23 _ hY.size).af), (fun h => absurd rfl (hn 17 _ rfl h ⟨16, .data⟩ (by simp) rfl)), V.skip 16 rfl⟩
   · have e15 := V.at (zdq hd 15 rfl) rfl
     obtain ⟨gz, b, ea, hN, hk⟩ := (h16 (zdq hd 16 rfl)).out
     refine zsb 23 _ _ rfl b 64 (oc) ea e15 23 gz hk Try.size23 ?_
     exact hK _ undef _ rfl ⟨zr hY hN _, (fun h => (h16 h).row hk), (fun _ => by rw [show updV v 17 undef 16 = v 16 from rfl, ea]; exact PF.row hk hN _), V.skip 17 rfl⟩
 · intro L v W20 hL ⟨hY, h16, h17, V⟩
   obtain ⟨k10_16, e16, hNk10_16, hk10_16⟩ := (h17 (hL 17 (by decide))).out
   have e0 := V.at (hL 0 (by decide)) rfl
   have e1 := V.at (hL 1 (by decide)) rfl
   have e2 := V.at (hL 2 (by decide)) rfl
   have e3 := V.at (hL 3 (by decide)) rfl
   have e4 := V.at (hL 4 (by decide)) rfl
   have e5 := V.at (hL 5 (by decide)) rfl
   have e6 := V.at (hL 6 (by decide)) rfl
   have e7 := V.at (hL 7 (by decide)) rfl
   have e8 := V.at (hL 8 (by decide)) rfl
   have e9 := V.at (hL 9 (by decide)) rfl
   have e10 := V.at (hL 10 (by decide)) rfl
   have e11 := V.at (hL 11 (by decide)) rfl
   have e12 := V.at (hL 12 (by decide)) rfl
   have e13 := V.at (hL 13 (by decide)) rfl
   have e14 := V.at (hL 14 (by decide)) rfl
   have e15 := V.at (hL 15 (by decide)) rfl
   clear hL h16 h17 V
   replace B0 := B0.zw hY
   replace B1 := B1.zw hY
   replace B2 := B2.zw hY
   replace B3 := B3.zw hY
   replace B4 := B4.zw hY
   replace B5 := B5.zw hY
   replace B6 := B6.zw hY
   replace B7 := B7.zw hY
   replace B8 := B8.zw hY
   replace B9 := B9.zw hY
   replace B10 := B10.zw hY
   replace B11 := B11.zw hY
   replace B12 := B12.zw hY
   replace B13 := B13.zw hY
   replace B14 := B14.zw hY
   replace B15 := B15.zw hY
   replace B16 := B16.zw hY
   replace B17 := B17.zw hY
   replace hb := hb.trans (hY.mono hb.size)
   clear hY
   simp only [Exit.then, e16, e0, e1, e2, e3, e4, e5, e6, e7, e8, e9, e10, e11, e12, e13, e14, e15]
   clear e16 e0 e1 e2 e3 e4 e5 e6 e7 e8 e9 e10 e11 e12 e13 e14 e15
   have B18 := hk10_16
   clear hk10_16
   have zk10_16_0 : w.heap.size < k10_16 := by omega
   have zk10_16_1 : w.heap.size + 1 < k10_16 := by omega
   have zk10_16_2 : w.heap.size + 1 + 1 < k10_16 := by omega
   have zk10_16_3 : w.heap.size + 1 + 1 + 1 < k10_16 := by omega
   have zk10_16_4 : N1 < k10_16 := by omega
   have zk10_16_5 : N2 < k10_16 := by omega
   have zk10_16_6 : N2 + 1 < k10_16 := by omega
   have zk10_16_7 : N2 + 1 + 1 < k10_16 := by omega
   have zk10_16_8 : N3 < k10_16 := by omega
   have zk10_16_9 : N3 + 1 < k10_16 := by omega
   have zk10_16_10 : N3 + 1 + 1 < k10_16 := by omega
   have zk10_16_11 : N4 < k10_16 := by omega
   have zk10_16_12 : N5 < k10_16 := by omega
   have zk10_16_13 : N6 < k10_16 := by omega
   have zk10_16_14 : N7 < k10_16 := by omega
   have zk10_16_15 : N8 < k10_16 := by omega
   have zk10_16_16 : N8 + 1 < k10_16 := by omega
   have zk10_16_17 : N9 < k10_16 := by omega
   clear lt_B0 lt_B1 lt_B2 lt_B3 lt_B4 lt_B5 lt_B6 lt_B7 lt_B8 lt_B9 lt_B10 lt_B11 lt_B12 lt_B13 lt_B14 lt_B15 lt_B16 lt_B17
   go_upto_region 11 with (fail)
   have lt_B0 : (w.heap.size) < W20.heap.size := B0.lt
   have lt_B1 : (w.heap.size + 1) < W20.heap.size := B1.lt
   have lt_B2 : (w.heap.size + 1 + 1) < W20.heap.size := B2.lt
   have lt_B3 : (w.heap.size + 1 + 1 + 1) < W20.heap.size := B3.lt
   have lt_B4 : (N1) < W20.heap.size := B4.lt
   have lt_B5 : (N2) < W20.heap.size := B5.lt
   have lt_B6 : (N2 + 1) < W20.heap.size := B6.lt
   have lt_B7 : (N2 + 1 + 1) < W20.heap.size := B7.lt
   have lt_B8 : (N3) < W20.heap.size := B8.lt
   have lt_B9 : (N3 + 1) < W20.heap.size := B9.lt
   have lt_B10 : (N3 + 1 + 1) < W20.heap.size := B10.lt
   have lt_B11 : (N4) < W20.heap.size := B11.lt
   have lt_B12 : (N5) < W20.heap.size := B12.lt
   have lt_B13 : (N6) < W20.heap.size := B13.lt
   have lt_B14 : (N7) < W20.heap.size := B14.lt
   have lt_B15 : (N8) < W20.heap.size := B15.lt
   have lt_B16 : (N8 + 1) < W20.heap.size := B16.lt
   have lt_B17 : (N9) < W20.heap.size := B17.lt
   have lt_B18 : (k10_16) < W20.heap.size := B18.lt
   refine zq Try.mixed (by kernel_rfl) (by kernel_rfl) (fun v => by (simp only [frL, Act.put, pA, pB, pC, Nat.reduceAdd, Nat.zero_add]; exact rfl))
    (fun L v W21 => Below W20.heap.size W20 W21 ∧ (L 10 = true → AF (v 10) W21 W20.heap.size 64 23) ∧ (L 11 = true → PF (v 10) W21 W20.heap.size 64 23 (nc)) ∧ VF L v [some (.int .i64 (p : Int)), some (.agg (zb 64 (eV))), some (.int .i64 (p : Int)), some (.agg (zb 64 (mc))), some (.agg (zb 64 (D))), some (.agg (zb 64 (md))), some (.tuple #[(.agg (zb 64 (nc))), (.bool true)]), some (.tuple #[(.agg (zb 64 (nc))), (.bool true)]), some (.agg (zb 64 (nc))), some (.bool true), none, none, some (.bool true)]) ?_ ?_ ?_
   · intro v hv0
     exact ⟨(Below.refl _ W20).drew, (fun h => by cases h), (fun h => by cases h), VF.start⟩
   · refine (.cons rfl ?_ (.cons rfl ?_ (.cons rfl ?_ (.cons rfl ?_ (.cons rfl ?_ (.cons rfl ?_ (.cons rfl ?_ (.cons rfl ?_ (.cons rfl ?_ (.cons rfl ?_ (.cons rfl ?_ (.cons rfl ?_ (.cons rfl ?_ (.nil _))))))))))))))
     all_goals intro L v W21 hd hn ⟨hY, h10, h11, V⟩ K hK
     · go_wp2_with fail
       exact hK _ (.int .i64 (p : Int)) _ (by simp only [Act.put, pA, pB, pC ]) ⟨hY, h10, h11, V.step 0 rfl⟩
     · refine zlc (B10.zw hY) Try.underlying23 Try.size23 ?_
       exact hK _ _ _ rfl ⟨hY, h10, h11, V.step 1 rfl⟩
     · go_wp2_with fail
       exact hK _ (.int .i64 (p : Int)) _ (by simp only [Act.put, pA, pB, pC ]) ⟨hY, h10, h11, V.step 2 rfl⟩
     · refine zlc (B17.zw hY) Try.underlying23 Try.size23 ?_
       exact hK _ _ _ rfl ⟨hY, h10, h11, V.step 3 rfl⟩
     · refine zlc (B0.zw hY) Try.underlying23 Try.size23 ?_
       exact hK _ _ _ rfl ⟨hY, h10, h11, V.step 4 rfl⟩
     · have e2 := V.at (zdq hd 2 rfl) rfl
       have e3 := V.at (zdq hd 3 rfl) rfl
       have e4 := V.at (zdq hd 4 rfl) rfl
       go_wp2_with (go_at_call 153; refine (S3.out _).mono ?_; rintro e wy ⟨rfl, hy⟩)
       exact hK _ (.agg (zb 64 (md))) _ (by simp only [Act.put, pA, pB, pC, e2, e3, e4]) ⟨hY.trans (hy.mono hY.size), (fun h => (h10 h).below hy), (fun h => (h11 h).below hy), V.step 5 rfl⟩
     · have e0 := V.at (zdq hd 0 rfl) rfl
       have e1 := V.at (zdq hd 1 rfl) rfl
       have e5 := V.at (zdq hd 5 rfl) rfl
       go_wp2_with (go_at_call 91; refine (P8.out _).mono ?_; rintro e wy ⟨rfl, hy⟩)
       exact hK _ (.tuple #[(.agg (zb 64 (nc))), (.bool true)]) _ (by simp only [Act.put, pA, pB, pC, e0, e1, e5]) ⟨hY.trans (hy.mono hY.size), (fun h => (h10 h).below hy), (fun h => (h11 h).below hy), V.step 6 rfl⟩
     · have e6 := V.at (zdq hd 6 rfl) rfl
       go_wp2_with fail
       exact hK _ (.tuple #[(.agg (zb 64 (nc))), (.bool true)]) _ (by simp only [Act.put, pA, pB, pC, e6]) ⟨hY, h10, h11, V.step 7 rfl⟩
     · have e7 := V.at (zdq hd 7 rfl) rfl
       go_wp2_with fail
       exact hK _ (.agg (zb 64 (nc))) _ (by simp only [Act.put, pA, pB, pC, e7]) ⟨hY, h10, h11, V.step 8 rfl⟩
     · have e7 := V.at (zdq hd 7 rfl) rfl
       go_wp2_with fail
       exact hK _ (.bool true) _ (by simp only [Act.put, pA, pB, pC, e7]) ⟨hY, h10, h11, V.step 9 rfl⟩
     · go_wp2_with fail
       rw [← z64]
       exact hK _ (.pointer (some ⟨W21.heap.size, 0, none⟩)) _ (by simp only [Act.put, pA, pB, pC ]) ⟨hY.alloc hY.size _, (fun _ => (PF.new W21 64 23 _ hY.size).af), (fun h => absurd rfl (hn 11 _ rfl h ⟨10, .data⟩ (by simp) rfl)), V.skip 10 rfl⟩
     · have e8 := V.at (zdq hd 8 rfl) rfl
       obtain ⟨gz, b, ea, hN, hk⟩ := (h10 (zdq hd 10 rfl)).out
       refine zsb 23 _ _ rfl b 64 (nc) ea e8 23 gz hk Try.size23 ?_
       exact hK _ undef _ rfl ⟨zr hY hN _, (fun h => (h10 h).row hk), (fun _ => by rw [show updV v 11 undef 10 = v 10 from rfl, ea]; exact PF.row hk hN _), V.skip 11 rfl⟩
     · have e9 := V.at (zdq hd 9 rfl) rfl
       go_wp2_with fail
       exact hK _ (.bool true) _ (by simp only [Act.put, pA, pB, pC, e9]) ⟨hY, h10, h11, V.step 12 rfl⟩
   · intro L v W21 hL ⟨hY, h10, h11, V⟩
     obtain ⟨k11_10, e10, hNk11_10, hk11_10⟩ := (h11 (hL 11 (by decide))).out
     have e0 := V.at (hL 0 (by decide)) rfl
     have e1 := V.at (hL 1 (by decide)) rfl
     have e2 := V.at (hL 2 (by decide)) rfl
     have e3 := V.at (hL 3 (by decide)) rfl
     have e4 := V.at (hL 4 (by decide)) rfl
     have e5 := V.at (hL 5 (by decide)) rfl
     have e6 := V.at (hL 6 (by decide)) rfl
     have e7 := V.at (hL 7 (by decide)) rfl
     have e8 := V.at (hL 8 (by decide)) rfl
     have e9 := V.at (hL 9 (by decide)) rfl
     have e12 := V.at (hL 12 (by decide)) rfl
     clear hL h10 h11 V
     replace B0 := B0.zw hY
     replace B1 := B1.zw hY
     replace B2 := B2.zw hY
     replace B3 := B3.zw hY
     replace B4 := B4.zw hY
     replace B5 := B5.zw hY
     replace B6 := B6.zw hY
     replace B7 := B7.zw hY
     replace B8 := B8.zw hY
     replace B9 := B9.zw hY
     replace B10 := B10.zw hY
     replace B11 := B11.zw hY
     replace B12 := B12.zw hY
     replace B13 := B13.zw hY
     replace B14 := B14.zw hY
     replace B15 := B15.zw hY
     replace B16 := B16.zw hY
     replace B17 := B17.zw hY
     replace B18 := B18.zw hY
     replace hb := hb.trans (hY.mono hb.size)
     clear hY
     simp only [Exit.then, e10, e0, e1, e2, e3, e4, e5, e6, e7, e8, e9, e12]
     clear e10 e0 e1 e2 e3 e4 e5 e6 e7 e8 e9 e12
     have B19 := hk11_10
     clear hk11_10
     have zk11_10_0 : w.heap.size < k11_10 := by omega
     have zk11_10_1 : w.heap.size + 1 < k11_10 := by omega
     have zk11_10_2 : w.heap.size + 1 + 1 < k11_10 := by omega
     have zk11_10_3 : w.heap.size + 1 + 1 + 1 < k11_10 := by omega
     have zk11_10_4 : N1 < k11_10 := by omega
     have zk11_10_5 : N2 < k11_10 := by omega
     have zk11_10_6 : N2 + 1 < k11_10 := by omega
     have zk11_10_7 : N2 + 1 + 1 < k11_10 := by omega
     have zk11_10_8 : N3 < k11_10 := by omega
     have zk11_10_9 : N3 + 1 < k11_10 := by omega
     have zk11_10_10 : N3 + 1 + 1 < k11_10 := by omega
     have zk11_10_11 : N4 < k11_10 := by omega
     have zk11_10_12 : N5 < k11_10 := by omega
     have zk11_10_13 : N6 < k11_10 := by omega
     have zk11_10_14 : N7 < k11_10 := by omega
     have zk11_10_15 : N8 < k11_10 := by omega
     have zk11_10_16 : N8 + 1 < k11_10 := by omega
     have zk11_10_17 : N9 < k11_10 := by omega
     have zk11_10_18 : k10_16 < k11_10 := by omega
     clear lt_B0 lt_B1 lt_B2 lt_B3 lt_B4 lt_B5 lt_B6 lt_B7 lt_B8 lt_B9 lt_B10 lt_B11 lt_B12 lt_B13 lt_B14 lt_B15 lt_B16 lt_B17 lt_B18
     go_upto_region 12 with (fail)
     have lt_B0 : (w.heap.size) < W21.heap.size := B0.lt
     have lt_B1 : (w.heap.size + 1) < W21.heap.size := B1.lt
     have lt_B2 : (w.heap.size + 1 + 1) < W21.heap.size := B2.lt
     have lt_B3 : (w.heap.size + 1 + 1 + 1) < W21.heap.size := B3.lt
     have lt_B4 : (N1) < W21.heap.size := B4.lt
     have lt_B5 : (N2) < W21.heap.size := B5.lt
     have lt_B6 : (N2 + 1) < W21.heap.size := B6.lt
     have lt_B7 : (N2 + 1 + 1) < W21.heap.size := B7.lt
     have lt_B8 : (N3) < W21.heap.size := B8.lt
     have lt_B9 : (N3 + 1) < W21.heap.size := B9.lt
     have lt_B10 : (N3 + 1 + 1) < W21.heap.size := B10.lt
     have lt_B11 : (N4) < W21.heap.size := B11.lt
     have lt_B12 : (N5) < W21.heap.size := B12.lt
     have lt_B13 : (N6) < W21.heap.size := B13.lt
     have lt_B14 : (N7) < W21.heap.size := B14.lt
     have lt_B15 : (N8) < W21.heap.size := B15.lt
     have lt_B16 : (N8 + 1) < W21.heap.size := B16.lt
     have lt_B17 : (N9) < W21.heap.size := B17.lt
     have lt_B18 : (k10_16) < W21.heap.size := B18.lt
     have lt_B19 : (k11_10) < W21.heap.size := B19.lt
     refine zq Try.mixed (by kernel_rfl) (by kernel_rfl) (fun v => by (simp only [frL, Act.put, pA, pB, pC, Nat.reduceAdd, Nat.zero_add]; exact rfl))
      (fun L v W22 => Below W21.heap.size W21 W22 ∧ (L 10 = true → AF (v 10) W22 W21.heap.size 64 23) ∧ (L 11 = true → AF (v 11) W22 W21.heap.size 64 23) ∧ (L 12 = true → PF (v 10) W22 W21.heap.size 64 23 (Qq)) ∧ (L 13 = true → PF (v 11) W22 W21.heap.size 64 23 (resP p od eD)) ∧ (L 10 = true → L 11 = true → v 10 ≠ v 11) ∧ VF L v [some (.int .i64 (p : Int)), some (.int .i64 (p : Int)), some (.agg (zb 64 (oc))), some (.agg (zb 64 (nc))), some (.agg (zb 64 (od))), some (.agg (zb 64 (eD))), some (.tuple #[(.agg (zb 64 (Qq))), (.agg (zb 64 (resP p od eD)))]), some (.tuple #[(.agg (zb 64 (Qq))), (.agg (zb 64 (resP p od eD)))]), some (.agg (zb 64 (Qq))), some (.agg (zb 64 (resP p od eD))), none, none, none, none]) ?_ ?_ ?_
     · intro v hv0
       exact ⟨(Below.refl _ W21).drew, (fun h => by cases h), (fun h => by cases h), (fun h => by cases h), (fun h => by cases h), (fun h => by cases h), VF.start⟩
     · refine (.cons rfl ?_ (.cons rfl ?_ (.cons rfl ?_ (.cons rfl ?_ (.cons rfl ?_ (.cons rfl ?_ (.cons rfl ?_ (.cons rfl ?_ (.cons rfl ?_ (.cons rfl ?_ (.cons rfl ?_ (.cons rfl ?_ (.cons rfl ?_ (.cons rfl ?_ (.nil _)))))))))))))))
       all_goals intro L v W22 hd hn ⟨hY, h10, h11, h12, h13, d10_11, V⟩ K hK
       · go_wp2_with fail
         exact hK _ (.int .i64 (p : Int)) _ (by simp only [Act.put, pA, pB, pC ]) ⟨hY, h10, h11, h12, h13, d10_11, V.step 0 rfl⟩
       · go_wp2_with fail
         exact hK _ (.int .i64 (p : Int)) _ (by simp only [Act.put, pA, pB, pC ]) ⟨hY, h10, h11, h12, h13, d10_11, V.step 1 rfl⟩
       · refine zlc (B18.zw hY) Try.underlying23 Try.size23 ?_
         exact hK _ _ _ rfl ⟨hY, h10, h11, h12, h13, d10_11, V.step 2 rfl⟩
       · refine zlc (B19.zw hY) Try.underlying23 Try.size23 ?_
         exact hK _ _ _ rfl ⟨hY, h10, h11, h12, h13, d10_11, V.step 3 rfl⟩
       · have e1 := V.at (zdq hd 1 rfl) rfl
         have e2 := V.at (zdq hd 2 rfl) rfl
         have e3 := V.at (zdq hd 3 rfl) rfl
         go_wp2_with (go_at_call 153; refine (S4.out _).mono ?_; rintro e wy ⟨rfl, hy⟩)
         exact hK _ (.agg (zb 64 (od))) _ (by simp only [Act.put, pA, pB, pC, e1, e2, e3]) ⟨hY.trans (hy.mono hY.size), (fun h => (h10 h).below hy), (fun h => (h11 h).below hy), (fun h => (h12 h).below hy), (fun h => (h13 h).below hy), d10_11, V.step 4 rfl⟩
       · refine zlc (B8.zw hY) Try.underlying23 Try.size23 ?_
         exact hK _ _ _ rfl ⟨hY, h10, h11, h12, h13, d10_11, V.step 5 rfl⟩
       · have e0 := V.at (zdq hd 0 rfl) rfl
         have e4 := V.at (zdq hd 4 rfl) rfl
         have e5 := V.at (zdq hd 5 rfl) rfl
         go_wp2_with (go_at_call 155; refine (Q1.out _).mono ?_; rintro e wy ⟨rfl, hy⟩)
         exact hK _ (.tuple #[(.agg (zb 64 (Qq))), (.agg (zb 64 (resP p od eD)))]) _ (by simp only [Act.put, pA, pB, pC, e0, e4, e5]) ⟨hY.trans (hy.mono hY.size), (fun h => (h10 h).below hy), (fun h => (h11 h).below hy), (fun h => (h12 h).below hy), (fun h => (h13 h).below hy), d10_11, V.step 6 rfl⟩
       · have e6 := V.at (zdq hd 6 rfl) rfl
         go_wp2_with fail
         exact hK _ (.tuple #[(.agg (zb 64 (Qq))), (.agg (zb 64 (resP p od eD)))]) _ (by simp only [Act.put, pA, pB, pC, e6]) ⟨hY, h10, h11, h12, h13, d10_11, V.step 7 rfl⟩
       · have e7 := V.at (zdq hd 7 rfl) rfl
         go_wp2_with fail
         exact hK _ (.agg (zb 64 (Qq))) _ (by simp only [Act.put, pA, pB, pC, e7]) ⟨hY, h10, h11, h12, h13, d10_11, V.step 8 rfl⟩
       · have e7 := V.at (zdq hd 7 rfl) rfl
         go_wp2_with fail
         exact hK _ (.agg (zb 64 (resP p od eD))) _ (by simp only [Act.put, pA, pB, pC, e7]) ⟨hY, h10, h11, h12, h13, d10_11, V.step 9 rfl⟩
       · go_wp2_with fail
         rw [← z64]
         exact hK _ (.pointer (some ⟨W22.heap.size, 0, none⟩)) _ (by simp only [Act.put, pA, pB, pC ]) ⟨hY.alloc hY.size _, (fun _ => (PF.new W22 64 23 _ hY.size).af), (fun h => (h11 h).below (zal _ _)), (fun h => absurd rfl (hn 12 _ rfl h ⟨10, .data⟩ (by simp) rfl)), (fun h => (h13 h).below (zal _ _)), (fun h g1 => Ne.symm ((h11 g1).ne_new)), V.skip 10 rfl⟩
       · go_wp2_with fail
         rw [← z64]
         exact hK _ (.pointer (some ⟨W22.heap.size, 0, none⟩)) _ (by simp only [Act.put, pA, pB, pC ]) ⟨hY.alloc hY.size _, (fun h => (h10 h).below (zal _ _)), (fun _ => (PF.new W22 64 23 _ hY.size).af), (fun h => (h12 h).below (zal _ _)), (fun h => absurd rfl (hn 13 _ rfl h ⟨11, .data⟩ (by simp) rfl)), (fun h g1 => (h10 h).ne_new), V.skip 11 rfl⟩
       · have e8 := V.at (zdq hd 8 rfl) rfl
         obtain ⟨gz, b, ea, hN, hk⟩ := (h10 (zdq hd 10 rfl)).out
         refine zsb 23 _ _ rfl b 64 (Qq) ea e8 23 gz hk Try.size23 ?_
         exact hK _ undef _ rfl ⟨zr hY hN _, (fun h => (h10 h).row hk), (fun h => (h11 h).row hk), (fun _ => by rw [show updV v 12 undef 10 = v 10 from rfl, ea]; exact PF.row hk hN _), (fun h => (h13 h).rowOther (by rw [← ea]; exact (Ne.symm (d10_11 (zdq hd 10 rfl) (zdq hd 11 rfl))))), d10_11, V.skip 12 rfl⟩
       · have e9 := V.at (zdq hd 9 rfl) rfl
         obtain ⟨gz, b, ea, hN, hk⟩ := (h11 (zdq hd 11 rfl)).out
         refine zsb 23 _ _ rfl b 64 (resP p od eD) ea e9 23 gz hk Try.size23 ?_
         exact hK _ undef _ rfl ⟨zr hY hN _, (fun h => (h10 h).row hk), (fun h => (h11 h).row hk), (fun h => (h12 h).rowOther (by rw [← ea]; exact (d10_11 (zdq hd 10 rfl) (zdq hd 11 rfl)))), (fun _ => by rw [show updV v 13 undef 11 = v 11 from rfl, ea]; exact PF.row hk hN _), d10_11, V.skip 13 rfl⟩
     · intro L v W22 hL ⟨hY, h10, h11, h12, h13, d10_11, V⟩
       obtain ⟨k12_10, e10, hNk12_10, hk12_10⟩ := (h12 (hL 12 (by decide))).out
       obtain ⟨k12_11, e11, hNk12_11, hk12_11⟩ := (h13 (hL 13 (by decide))).out
       have n10_11 := d10_11 (hL 10 (by decide)) (hL 11 (by decide))
       have e0 := V.at (hL 0 (by decide)) rfl
       have e1 := V.at (hL 1 (by decide)) rfl
       have e2 := V.at (hL 2 (by decide)) rfl
       have e3 := V.at (hL 3 (by decide)) rfl
       have e4 := V.at (hL 4 (by decide)) rfl
       have e5 := V.at (hL 5 (by decide)) rfl
       have e6 := V.at (hL 6 (by decide)) rfl
       have e7 := V.at (hL 7 (by decide)) rfl
       have e8 := V.at (hL 8 (by decide)) rfl
       have e9 := V.at (hL 9 (by decide)) rfl
       clear hL h10 h11 h12 h13 d10_11 V
       replace B0 := B0.zw hY
       replace B1 := B1.zw hY
       replace B2 := B2.zw hY
       replace B3 := B3.zw hY
       replace B4 := B4.zw hY
       replace B5 := B5.zw hY
       replace B6 := B6.zw hY
       replace B7 := B7.zw hY
       replace B8 := B8.zw hY
       replace B9 := B9.zw hY
       replace B10 := B10.zw hY
       replace B11 := B11.zw hY
       replace B12 := B12.zw hY
       replace B13 := B13.zw hY
       replace B14 := B14.zw hY
       replace B15 := B15.zw hY
       replace B16 := B16.zw hY
       replace B17 := B17.zw hY
       replace B18 := B18.zw hY
       replace B19 := B19.zw hY
       replace hb := hb.trans (hY.mono hb.size)
       clear hY
       rw [e10, e11] at n10_11
       have mk12_10_11 : k12_10 ≠ k12_11 := fun h => n10_11 (by rw [h])
       clear n10_11
       simp only [Exit.then, e10, e11, e0, e1, e2, e3, e4, e5, e6, e7, e8, e9]
       clear e10 e11 e0 e1 e2 e3 e4 e5 e6 e7 e8 e9
       have B20 := hk12_10
       clear hk12_10
       have zk12_10_0 : w.heap.size < k12_10 := by omega
       have zk12_10_1 : w.heap.size + 1 < k12_10 := by omega
       have zk12_10_2 : w.heap.size + 1 + 1 < k12_10 := by omega
       have zk12_10_3 : w.heap.size + 1 + 1 + 1 < k12_10 := by omega
       have zk12_10_4 : N1 < k12_10 := by omega
       have zk12_10_5 : N2 < k12_10 := by omega
       have zk12_10_6 : N2 + 1 < k12_10 := by omega
       have zk12_10_7 : N2 + 1 + 1 < k12_10 := by omega
       have zk12_10_8 : N3 < k12_10 := by omega
       have zk12_10_9 : N3 + 1 < k12_10 := by omega
       have zk12_10_10 : N3 + 1 + 1 < k12_10 := by omega
       have zk12_10_11 : N4 < k12_10 := by omega
       have zk12_10_12 : N5 < k12_10 := by omega
       have zk12_10_13 : N6 < k12_10 := by omega
       have zk12_10_14 : N7 < k12_10 := by omega
       have zk12_10_15 : N8 < k12_10 := by omega
       have zk12_10_16 : N8 + 1 < k12_10 := by omega
       have zk12_10_17 : N9 < k12_10 := by omega
       have zk12_10_18 : k10_16 < k12_10 := by omega
       have zk12_10_19 : k11_10 < k12_10 := by omega
       have B21 := hk12_11
       clear hk12_11
       have zk12_11_0 : w.heap.size < k12_11 := by omega
       have zk12_11_1 : w.heap.size + 1 < k12_11 := by omega
       have zk12_11_2 : w.heap.size + 1 + 1 < k12_11 := by omega
       have zk12_11_3 : w.heap.size + 1 + 1 + 1 < k12_11 := by omega
       have zk12_11_4 : N1 < k12_11 := by omega
       have zk12_11_5 : N2 < k12_11 := by omega
       have zk12_11_6 : N2 + 1 < k12_11 := by omega
       have zk12_11_7 : N2 + 1 + 1 < k12_11 := by omega
       have zk12_11_8 : N3 < k12_11 := by omega
       have zk12_11_9 : N3 + 1 < k12_11 := by omega
       have zk12_11_10 : N3 + 1 + 1 < k12_11 := by omega
       have zk12_11_11 : N4 < k12_11 := by omega
       have zk12_11_12 : N5 < k12_11 := by omega
       have zk12_11_13 : N6 < k12_11 := by omega
       have zk12_11_14 : N7 < k12_11 := by omega
       have zk12_11_15 : N8 < k12_11 := by omega
       have zk12_11_16 : N8 + 1 < k12_11 := by omega
       have zk12_11_17 : N9 < k12_11 := by omega
       have zk12_11_18 : k10_16 < k12_11 := by omega
       have zk12_11_19 : k11_10 < k12_11 := by omega
       clear lt_B0 lt_B1 lt_B2 lt_B3 lt_B4 lt_B5 lt_B6 lt_B7 lt_B8 lt_B9 lt_B10 lt_B11 lt_B12 lt_B13 lt_B14 lt_B15 lt_B16 lt_B17 lt_B18 lt_B19
       go_upto_region 13 with (fail)
       have lt_B0 : (w.heap.size) < W22.heap.size := B0.lt
       have lt_B1 : (w.heap.size + 1) < W22.heap.size := B1.lt
       have lt_B2 : (w.heap.size + 1 + 1) < W22.heap.size := B2.lt
       have lt_B3 : (w.heap.size + 1 + 1 + 1) < W22.heap.size := B3.lt
       have lt_B4 : (N1) < W22.heap.size := B4.lt
       have lt_B5 : (N2) < W22.heap.size := B5.lt
       have lt_B6 : (N2 + 1) < W22.heap.size := B6.lt
       have lt_B7 : (N2 + 1 + 1) < W22.heap.size := B7.lt
       have lt_B8 : (N3) < W22.heap.size := B8.lt
       have lt_B9 : (N3 + 1) < W22.heap.size := B9.lt
       have lt_B10 : (N3 + 1 + 1) < W22.heap.size := B10.lt
       have lt_B11 : (N4) < W22.heap.size := B11.lt
       have lt_B12 : (N5) < W22.heap.size := B12.lt
       have lt_B13 : (N6) < W22.heap.size := B13.lt
       have lt_B14 : (N7) < W22.heap.size := B14.lt
       have lt_B15 : (N8) < W22.heap.size := B15.lt
       have lt_B16 : (N8 + 1) < W22.heap.size := B16.lt
       have lt_B17 : (N9) < W22.heap.size := B17.lt
       have lt_B18 : (k10_16) < W22.heap.size := B18.lt
       have lt_B19 : (k11_10) < W22.heap.size := B19.lt
       have lt_B20 : (k12_10) < W22.heap.size := B20.lt
       have lt_B21 : (k12_11) < W22.heap.size := B21.lt
       have hbase : w.heap.size ≤ W22.heap.size := hb.size
       refine zq Try.mixed (by kernel_rfl) (by kernel_rfl) (fun v => by (simp only [frL, Act.put, pA, pB, pC, Nat.reduceAdd, Nat.zero_add]; exact rfl))
        (fun L v W23 => Below w.heap.size w W23 ∧ Kx [w.heap.size + 1 + 1 + 1] W22 W23 ∧ (∃ g : Array Value, g.size = 128 ∧ Row W23 (w.heap.size + 1 + 1 + 1) 55 (g)) ∧ (L 9 = false → Row W23 (w.heap.size + 1 + 1 + 1) 55 ((frC (fun _ => 0) (fun _ => 0)).toArray)) ∧ (L 9 = true → Row W23 (w.heap.size + 1 + 1 + 1) 55 ((frC Fa Fb).toArray)) ∧ VF L v [some (.int .i64 (p : Int)), some (.agg (zb 64 (D))), some (.agg (zb 64 (Ac))), some (.int .i64 (p : Int)), some (.agg (zb 64 (Qq))), some (.agg (zb 64 (Ac))), some (.agg (zb 64 (Rc))), some (.agg (frC Ac Rc).toArray), some (.agg (frC Fa Fb).toArray), none]) ?_ ?_ ?_
       · intro v hv0
         exact ⟨hb.drew, Kx.start _ _, ⟨_, by simp [frC_len], B3.drew⟩, (fun _ => B3.drew), (fun h => by cases h), VF.start⟩
       · refine (.cons rfl ?_ (.cons rfl ?_ (.cons rfl ?_ (.cons rfl ?_ (.cons rfl ?_ (.cons rfl ?_ (.cons rfl ?_ (.cons rfl ?_ (.cons rfl ?_ (.cons rfl ?_ (.nil _)))))))))))
         all_goals intro L v W23 hd hn ⟨hB, hX, x3, q3, n3, V⟩ K hK
         · go_wp2_with fail
           exact hK _ (.int .i64 (p : Int)) _ (by simp only [Act.put, pA, pB, pC ]) ⟨hB, hX, x3, q3, n3, V.step 0 rfl⟩
         · refine wp_load_any 23 _ rfl _ rfl 64 23 _ (B0.kx hX (by simp <;> omega)) _ Try.underlying23 rfl Try.size23 ?_
           exact hK _ _ _ rfl ⟨hB, hX, x3, q3, n3, V.step 1 rfl⟩
         · refine wp_load_any 23 _ rfl _ rfl 64 23 _ (B15.kx hX (by simp <;> omega)) _ Try.underlying23 rfl Try.size23 ?_
           exact hK _ _ _ rfl ⟨hB, hX, x3, q3, n3, V.step 2 rfl⟩
         · go_wp2_with fail
           exact hK _ (.int .i64 (p : Int)) _ (by simp only [Act.put, pA, pB, pC ]) ⟨hB, hX, x3, q3, n3, V.step 3 rfl⟩
         · refine wp_load_any 23 _ rfl _ rfl 64 23 _ (B20.kx hX (by simp <;> omega)) _ Try.underlying23 rfl Try.size23 ?_
           exact hK _ _ _ rfl ⟨hB, hX, x3, q3, n3, V.step 4 rfl⟩
         · refine wp_load_any 23 _ rfl _ rfl 64 23 _ (B15.kx hX (by simp <;> omega)) _ Try.underlying23 rfl Try.size23 ?_
           exact hK _ _ _ rfl ⟨hB, hX, x3, q3, n3, V.step 5 rfl⟩
         · have e3 := V.at (zdq hd 3 rfl) rfl
           have e4 := V.at (zdq hd 4 rfl) rfl
           have e5 := V.at (zdq hd 5 rfl) rfl
           go_wp2_with (go_at_call 146; refine (Q3.out _).mono ?_; rintro e wy ⟨rfl, hy⟩)
           exact hK _ (.agg (zb 64 (Rc))) _ (by simp only [Act.put, pA, pB, pC, e3, e4, e5]) ⟨hB.trans (hy.mono hB.size), hX.below hy, (let ⟨g, hg, h⟩ := x3; ⟨g, hg, h.zw hy⟩), (fun h => (q3 h).below hy (q3 h).lt), (fun h => (n3 h).below hy (n3 h).lt), V.step 6 rfl⟩
         · have e2 := V.at (zdq hd 2 rfl) rfl
           have e6 := V.at (zdq hd 6 rfl) rfl
           refine wp_build_of 55 _ rfl (frC Ac Rc).toArray (by rw [Array.toList_map]; simp only [e2, e6, Act.eval]; exact built_fr _ _) ?_
           exact hK _ _ _ rfl ⟨hB, hX, x3, q3, n3, V.step 7 rfl⟩
         · have e0 := V.at (zdq hd 0 rfl) rfl
           have e1 := V.at (zdq hd 1 rfl) rfl
           have e7 := V.at (zdq hd 7 rfl) rfl
           go_wp2_with (go_at_call 128; refine (RD.out _).mono ?_; rintro e wy ⟨rfl, hy⟩)
           exact hK _ (.agg (frC Fa Fb).toArray) _ (by simp only [Act.put, pA, pB, pC, e0, e1, e7]) ⟨hB.trans (hy.mono hB.size), hX.below hy, (let ⟨g, hg, h⟩ := x3; ⟨g, hg, h.zw hy⟩), (fun h => (q3 h).below hy (q3 h).lt), (fun h => (n3 h).below hy (n3 h).lt), V.step 8 rfl⟩
         · have e8 := V.at (zdq hd 8 rfl) rfl
           obtain ⟨gz, hgz, hk⟩ := x3
           refine wp_store_rowv 55 _ _ rfl _ rfl ((frC Fa Fb).toArray) e8 55 gz hk 128 Try.size55 hgz (by simp [frC_len]) (frC_all _ _) ?_
           exact hK _ undef _ rfl ⟨zr hB (by omega) _, hX.row (by simp) _, ⟨_, by simp [frC_len], hk.row _⟩, (fun h => absurd h (by simp [setL])), (fun _ => hk.row _), V.skip 9 rfl⟩
       · intro L v W23 hL ⟨hB, hX, x3, q3, n3, V⟩
         have r3 := n3 (hL 9 (by decide))
         have e0 := V.at (hL 0 (by decide)) rfl
         have e1 := V.at (hL 1 (by decide)) rfl
         have e2 := V.at (hL 2 (by decide)) rfl
         have e3 := V.at (hL 3 (by decide)) rfl
         have e4 := V.at (hL 4 (by decide)) rfl
         have e5 := V.at (hL 5 (by decide)) rfl
         have e6 := V.at (hL 6 (by decide)) rfl
         have e7 := V.at (hL 7 (by decide)) rfl
         have e8 := V.at (hL 8 (by decide)) rfl
         clear hL x3 q3 n3 V
         replace B0 := B0.kx hX (by simp <;> omega)
         replace B1 := B1.kx hX (by simp <;> omega)
         replace B2 := B2.kx hX (by simp <;> omega)
         replace B4 := B4.kx hX (by simp <;> omega)
         replace B5 := B5.kx hX (by simp <;> omega)
         replace B6 := B6.kx hX (by simp <;> omega)
         replace B7 := B7.kx hX (by simp <;> omega)
         replace B8 := B8.kx hX (by simp <;> omega)
         replace B9 := B9.kx hX (by simp <;> omega)
         replace B10 := B10.kx hX (by simp <;> omega)
         replace B11 := B11.kx hX (by simp <;> omega)
         replace B12 := B12.kx hX (by simp <;> omega)
         replace B13 := B13.kx hX (by simp <;> omega)
         replace B14 := B14.kx hX (by simp <;> omega)
         replace B15 := B15.kx hX (by simp <;> omega)
         replace B16 := B16.kx hX (by simp <;> omega)
         replace B17 := B17.kx hX (by simp <;> omega)
         replace B18 := B18.kx hX (by simp <;> omega)
         replace B19 := B19.kx hX (by simp <;> omega)
         replace B20 := B20.kx hX (by simp <;> omega)
         replace B21 := B21.kx hX (by simp <;> omega)
         clear hX
         simp only [Exit.then, e0, e1, e2, e3, e4, e5, e6, e7, e8]
         clear e0 e1 e2 e3 e4 e5 e6 e7 e8
         replace B3 := r3
         clear r3
         replace hb := hB
         clear hB
         clear hbase lt_B0 lt_B1 lt_B2 lt_B3 lt_B4 lt_B5 lt_B6 lt_B7 lt_B8 lt_B9 lt_B10 lt_B11 lt_B12 lt_B13 lt_B14 lt_B15 lt_B16 lt_B17 lt_B18 lt_B19 lt_B20 lt_B21
         go_wp2_with fail
         refine bodyPost_ret (results_row rfl _ _ _ _ _ rfl B3 _ Try.underlying55 rfl (by rw [Try.size55]; simp [frC_len])) rfl ⟨rfl, hb⟩
end Go.Proofs.Ytoncepgcfifgbaa
end
section
namespace Go.Proofs.Ytoncepgcfifgbaa
open Go Go.RowKit
set_option linter.unusedVariables false
set_option linter.unusedSimpArgs false
attribute [local irreducible] deg invN quoP resP prd bzD bzU bzW sqP ngP mkP okA monB dvN
/-- the same, with forms that are to be reduced -/
noncomputable def ckR (p : Int) (D : Nat → Nat) (Fs : List ((Nat → Nat) × (Nat → Nat))) : Int := if ckF p D Fs = 0 then (if ∀ F, F ∈ Fs → deg F.1 ≤ deg D / 2 then 0 else 5) else 1
theorem ckR_1 {p : Int} {D : Nat → Nat} {Fs : List ((Nat → Nat) × (Nat → Nat))} (h : ckF p D Fs = 1) : ckR p D Fs = 1 := if_neg (by omega)
theorem ckR_5 {p : Int} {D : Nat → Nat} {Fs : List ((Nat → Nat) × (Nat → Nat))} {F : (Nat → Nat) × (Nat → Nat)} {j : Nat} (h : ckF p D Fs = 0) (hj : Fs[j]? = some F) (h2 : ¬ deg F.1 ≤ deg D / 2) : ckR p D Fs = 5 := by
 unfold ckR; rw [if_pos h, if_neg (fun a => h2 (a F (List.mem_of_getElem? hj)))]
theorem ckR_0 {p : Int} {D : Nat → Nat} {Fs : List ((Nat → Nat) × (Nat → Nat))} (h : ckF p D Fs = 0) (h2 : ∀ (i : Nat) (F : (Nat → Nat) × (Nat → Nat)), Fs[i]? = some F → deg F.1 ≤ deg D / 2) : ckR p D Fs = 0 := by
 unfold ckR; rw [if_pos h, if_pos (fun F hF => by
  obtain ⟨i, hi, e⟩ := List.getElem_of_mem hF
  exact h2 i F (by rw [← e]; exact List.getElem?_eq_getElem hi))]
attribute [irreducible] ckR
end Go.Proofs.Ytoncepgcfifgbaa
end
