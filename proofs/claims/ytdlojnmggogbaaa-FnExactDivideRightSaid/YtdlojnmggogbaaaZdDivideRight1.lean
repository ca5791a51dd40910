/-
  What the rows of this claim rest on: arrays of bytes, walks of the functions, plain mathematics.
-/
import Derived.Test.YtdlojnmggogbaaaZd8
import Derived.WalkKit
import Derived.WalkSpells
import Derived.WalkLawsBesides
import Derived.Lib.Hide
import Derived.Laws.Rows
import Derived.Laws.CopyOwn
import Derived.Deep.QuietTactic
import Derived.Deep.WholeRow
import Derived.Deep.Draws
import Derived.Deep.MidRow
import Derived.Deep.CutRange
import Derived.Deep.DeepCutAuto
import Derived.Deep.RegionHeld3
import Derived.BigQuiet
import Derived.BigRegion
import Derived.Test.YtdlojnmggogbaaaRows
import Derived.Great.BuildSlice
import Derived.Laws.Tables
import Derived.Laws.StructEq
import Derived.ScopeJumps
import Derived.OwnWalk
import Derived.RangeFuncNested
import Derived.RangeFuncBound
import Derived.RangeFuncCalls
import Derived.RangeFuncLeaves
import Derived.Shelf.Abstract
import Derived.Shelf.RegionOpen
import Derived.OwnWalkIn
import Derived.TacticsInMore
import Derived.LoopNIn
import Derived.LoopIn
import Derived.Deep.CutBlock
import Derived.Maps.OwnOps
import Derived.DeepKeys4
import Derived.Carry
import Derived.Test.YtdlojnmggogbaaaProg
section
namespace Go.Proofs.Ytdlojnmggogbaaa
open Rg
set_option linter.unusedVariables false
section
variable {p : Nat} {m : Nat → Nat} {d : Nat} (hp : p = 2 ∨ p = 3 ∨ p = 5 ∨ p = 7) (lm : ∀ k, k < 64 → m k < p) (hmon : mon m d) (hi : irr p (cut m) d)
include hp lm hmon hi
theorem frN_ne {y : Nat → Nat} (h9 : d ≤ 9) (hy : rsd p m y) (hy0 : 0 ≤ deg y) {n : Nat} (hn : n ≤ d) : 0 ≤ deg (frN p m y n) := by
 have h0 : 0 ≤ deg m := by rw [hmon.1]; omega
 have h9' : deg m ≤ 9 := by rw [hmon.1]; omega
 by_cases h : 0 ≤ deg (frN p m y n)
 · exact h
 · exfalso
   obtain ⟨a, b⟩ := frN_ok hp lm h0 h9' hy n
   obtain ⟨a2, b2⟩ := frN_ok hp lm h0 h9' hy d
   have hz : (rs (frN p m y n) : Res p (lz m)) = o := by
    rw [← rs_zero]
    exact cl_congr (by
     funext k
     unfold lz cut
     by_cases hk : k < 64
     · rw [if_pos hk, if_pos hk, dgz_out (x := frN p m y n) (by omega) k hk]
     · rw [if_neg hk, if_neg hk])
   have hd : (rs (frN p m y d) : Res p (lz m)) = rs y := cl_congr (by
    funext k
    unfold lz cut
    by_cases hk : k < 64
    · rw [if_pos hk, if_pos hk, frN_d hp lm h0 h9' hi hy k hk]
    · rw [if_neg hk, if_neg hk])
   have h3 : (rs y : Res p (lz m)) = o := by
    rw [← hd, b2, show d = n + (d - n) by omega, fr_add, ← b, hz, fr_o (by omega)]
   have h4 := rsd_eq hp lm h0 hy (zero_rsd (by omega) h0) (by rw [h3, rs_zero])
   obtain ⟨k, hk, h5⟩ := deg_nonneg hy0
   exact h5 (h4 k hk)
end
end Go.Proofs.Ytdlojnmggogbaaa
end
section
namespace Go.Proofs.Ytdlojnmggogbaaa
open Rg
set_option linter.unusedVariables false
section
variable {p : Nat} {m : Nat → Nat} {d : Nat} (hp : p = 2 ∨ p = 3 ∨ p = 5 ∨ p = 7) (lm : ∀ k, k < 64 → m k < p) (hmon : mon m d) (hi : irr p (cut m) d) (h9 : d ≤ 9)
include hp lm hmon hi h9
theorem dv_step {F G : Nat → Nat → Nat} (hF : rsk p m F) (hG : rsk p m G) (hG0 : 0 ≤ skD G) (hFG : skD G ≤ skD F) :
 rsd p m (dvA p m d F G) ∧ 0 ≤ deg (dvA p m d F G) ∧ skD (dvT p m d F G) = skD F - skD G ∧ rsk p m (dvT p m d F G) ∧ rsk p m (dvF p m d F G) ∧ skD (dvF p m d F G) < skD F := by
 have h0 : 0 ≤ deg m := by rw [hmon.1]; omega
 have hd1 := hi.1
 obtain ⟨n, hn⟩ : ∃ n : Nat, skD F = (n : Int) := ⟨(skD F).toNat, by omega⟩
 obtain ⟨k, hk⟩ : ∃ k : Nat, skD G = (k : Int) := ⟨(skD G).toNat, by omega⟩
 obtain ⟨n8, hFn⟩ := skN_row hn
 obtain ⟨k8, hGk⟩ := skN_row hk
 have ry := (frN_ok hp lm h0 (by rw [hmon.1]; omega) (hG k k8) ((n - k) % d)).1
 have hy0 : 0 ≤ deg (frN p m (G k) ((n - k) % d)) := frN_ne hp lm hmon hi h9 (hG k k8) hGk (Nat.le_of_lt (Nat.mod_lt _ (by omega)))
 have hA : dvA p m d F G = mmP p (F n) (bzU p (frN p m (G k) ((n - k) % d)) m) m := by unfold dvA; rw [hn, hk]; rfl
 have rA : rsd p m (dvA p m d F G) := by rw [hA]; exact mm_rsd hp lm h0
 have hq : ∀ j, j < 64 → mmP p (dvA p m d F G) (frN p m (G k) ((n - k) % d)) m j = F n j := by rw [hA]; exact quo_spec hp lm hmon hi (hF n n8) ry hy0
 have hA0 : 0 ≤ deg (dvA p m d F G) := by
  by_cases h : 0 ≤ deg (dvA p m d F G)
  · exact h
  · exfalso
    obtain ⟨j, hj, h2⟩ := deg_nonneg hFn
    rw [← hq j hj, mm_zero hp lm h0 (dgz_out (by omega)) j hj] at h2
    exact h2 rfl
 have hT : dvT p m d F G = sng (n - k) (dvA p m d F G) := by unfold dvT; rw [hn, hk]; rfl
 have hTd : skD (dvT p m d F G) = ((n - k : Nat) : Int) := by rw [hT]; exact sng_deg (by omega) hA0
 have hTr : ∀ r, rsd p m (dvT p m d F G r) := fun r => by
  rw [hT]; unfold sng
  by_cases h : r = n - k
  · subst h; rw [updR_same]; exact rA
  · rw [updR_other h]; exact zero_rsd (by omega) h0
 have hP := fun r => tmP_rsd (d := d) (F := dvT p m d F G) (G := G) hp lm h0 r
 refine ⟨rA, hA0, by rw [hTd, hn, hk]; omega, fun r _ => hTr r, fun r hr => ?_, ?_⟩
 · show rsd p m (skA p F _ (-1) r)
   unfold skA; exact addK_rsd (by omega) h0 (hF r hr) (hP r)
 · rw [hn]
   refine skD_lt fun r hr hr8 => ?_
   show ∀ j, j < 64 → skA p F _ (-1) r j = 0
   unfold skA
   by_cases h : r = n
   · subst h
     refine addK_self (by omega) (fun j hj => ?_) (fun j hj => (hP r).1 j hj)
     have h3 := tmP_top (p := p) (m := m) (d := d) (by omega) hTd hk j hj
     rw [show r - k + k = r by omega] at h3
     have h4 : dvT p m d F G (r - k) = dvA p m d F G := by rw [hT]; exact updR_same _ _ _
     rw [h3, h4]; exact hq j hj
   · have hz := skN_spec F 8 r hr8 (by unfold skD at hn; omega)
     have h3 := tmP_hi (p := p) (m := m) (d := d) hTd hk (show n - k + k < r by omega)
     refine addK_self (by omega) (fun j hj => ?_) (fun j hj => (hP r).1 j hj)
     rw [h3]; exact (eqN_iff.1 hz j hj).symm
end
end Go.Proofs.Ytdlojnmggogbaaa
end
section
namespace Go.Proofs.Ytdlojnmggogbaaa
open Rg
set_option linter.unusedVariables false
section
variable {p : Nat} {m : Nat → Nat} {d : Nat} (hp : p = 2 ∨ p = 3 ∨ p = 5 ∨ p = 7) (lm : ∀ k, k < 64 → m k < p) (hmon : mon m d) (hi : irr p (cut m) d) (h9 : d ≤ 9)
include hp lm hmon hi h9
theorem GD_right {G : Nat → Nat → Nat} (hG : rsk p m G) (hG0 : 0 ≤ skD G) : GD p m (fun F => dvA p m d F G) (fun F => dvT p m d F G) (fun F => dvF p m d F G) (skD G) := ⟨hG0, fun F hF h => by
 obtain ⟨a, b, c, e, f, g⟩ := dv_step hp lm hmon hi h9 hF hG hG0 h
 exact ⟨rfl, a, b, e, f, g⟩⟩
end
end Go.Proofs.Ytdlojnmggogbaaa
end
section
namespace Go.Proofs.Ytdlojnmggogbaaa
open Go Go.RowKit
set_option linter.unusedVariables false
set_option linter.unusedSimpArgs false
attribute [local irreducible] deg addK strP frI frN mmP pmP resP bzU bzD bzW skA skD
set_option maxRecDepth 100000 in
set_option maxHeartbeats 1600000 in
theorem rightStep_any (p : Nat) (m : Nat → Nat) (F G : Nat → Nat → Nat) (w : World) (hpr : p = 2 ∨ p = 3 ∨ p = 5 ∨ p = 7) (lm : ∀ k, k < 64 → m k < p) (d : Nat) (hmon : mon m d) (hi : irr p (cut m) d) (hd9 : d ≤ 9) (hF : rsk p m F) (hG : rsk p m G) (hG0 : 0 ≤ skD G) (hFG : skD G ≤ skD F) :
 Calls Try.prog 91 #[.agg (zb 512 (fl 64 F)), .agg (fdC (p : Int) m).toArray, .agg (zb 512 (fl 64 G))] w fun e w' => e = .returned (.tuple #[.agg (zb 512 (fl 64 (dvT p m d F G))), .agg (zb 512 (fl 64 (tmP p m d (dvT p m d F G) G)))]) ∧ Below w.heap.size w w' := by
 have p0 : 0 < p := by omega
 have hd := hmon.1
 have hd1 := hi.1
 have h0 : 0 ≤ deg m := by omega
 have h9 : deg m ≤ 9 := by omega
 obtain ⟨s1, s2, s3, s4, s5, s6⟩ := dv_step hpr lm hmon hi hd9 hF hG hG0 hFG
 obtain ⟨n, hn⟩ : ∃ n : Nat, skD F = (n : Int) := ⟨(skD F).toNat, by omega⟩
 obtain ⟨k, hk⟩ : ∃ k : Nat, skD G = (k : Int) := ⟨(skD G).toNat, by omega⟩
 obtain ⟨n8, fn⟩ := skN_row hn
 obtain ⟨k8, gk⟩ := skN_row hk
 obtain ⟨q, hq⟩ : ∃ q : Nat, n - k = q := ⟨_, rfl⟩
 have hqI : (n : Int) - (k : Int) = (q : Int) := by omega
 have q8 : q < 8 := by omega
 have HT := Lib.hid (show updR (fun _ _ => 0) q (mmP p (F n) (bzU p (frN p m (G k) (q % d)) m) m) = dvT p m d F G by unfold dvT dvA sng; rw [hn, hk, ← hq]; rfl)
 have HLF := Lib.hid (fun W => leading_any F n hn W)
 have HLG := Lib.hid (fun W => leading_any G k hk W)
 have HDF := Lib.hid (show ∀ W, Calls Try.prog 86 #[.agg (zb 512 (fl 64 F))] W fun e w' => e = .returned (.int .i64 (n : Int)) ∧ Below W.heap.size W w' from fun W => by have := skDegree_any F W; rwa [hn] at this)
 have HDG := Lib.hid (show ∀ W, Calls Try.prog 86 #[.agg (zb 512 (fl 64 G))] W fun e w' => e = .returned (.int .i64 (k : Int)) ∧ Below W.heap.size W w' from fun W => by have := skDegree_any G W; rwa [hk] at this)
 have HFB := Lib.hid (fun W => kfrob_any p m (G k) q W hpr lm d hd hd1 hd9 (by omega) (hG k k8))
 have HQ := Lib.hid (fun W => quotient_any p m (F n) (frN p m (G k) (q % d)) W hpr lm h0 (hF n n8).1 (frN_ok hpr lm h0 h9 (hG k k8) (q % d)).1.1)
 have HTM := Lib.hid (show ∀ W, Calls Try.prog 87 #[.agg (zb 512 (fl 64 (updR (fun _ _ => 0) q (mmP p (F n) (bzU p (frN p m (G k) (q % d)) m) m)))), .agg (fdC (p : Int) m).toArray, .agg (zb 512 (fl 64 G))] W fun e w' => e = .returned (.agg (zb 512 (fl 64 (tmP p m d (dvT p m d F G) G)))) ∧ Below W.heap.size W w' from fun W => by
  rw [HT.out]; exact skTimes_any p m _ G W hpr lm d hd hd1 hd9 (fun i hi8 => (s4 i hi8).1) hG (by omega))
 clear s1 s2 s3 s4 s5 s6 hF hG hG0 hFG hn hk hq fn gk hd hd1 h0 h9 hmon hi
 go_enter Try.func91, Try.ntmps91
 go_upto_region 1 with (fail)
 rw [← zero512]
 obtain ⟨W1, hwo⟩ : ∃ v : World, v = (((((w.alloc (.cells (zb 512 (fl 64 F)) 26)).alloc (.cells (fdC (p : Int) m).toArray 94)).alloc (.cells (zb 512 (fl 64 G)) 26)).alloc (.cells (zb 512 (fl 64 (fun _ _ => 0))) 26)).alloc (.cells (zb 512 (fl 64 (fun _ _ => 0))) 26)) := ⟨_, rfl⟩
 have B0 : Blk W1 (w.heap.size) 512 26 (fl 64 F) := by subst hwo; have := (((((Blk.new w 512 26 (fl 64 F)).alloc (.cells (fdC (p : Int) m).toArray 94)).alloc (.cells (zb 512 (fl 64 G)) 26)).alloc (.cells (zb 512 (fl 64 (fun _ _ => 0))) 26)).alloc (.cells (zb 512 (fl 64 (fun _ _ => 0))) 26)); simpa using this
 have B1 : Row W1 (w.heap.size + 1) 94 (fdC (p : Int) m).toArray := by subst hwo; have := ((((Row.new (w.alloc (.cells (zb 512 (fl 64 F)) 26)) 94 (fdC (p : Int) m).toArray).alloc (.cells (zb 512 (fl 64 G)) 26)).alloc (.cells (zb 512 (fl 64 (fun _ _ => 0))) 26)).alloc (.cells (zb 512 (fl 64 (fun _ _ => 0))) 26)); simpa using this
 have B2 : Blk W1 (w.heap.size + 1 + 1) 512 26 (fl 64 G) := by subst hwo; have := (((Blk.new ((w.alloc (.cells (zb 512 (fl 64 F)) 26)).alloc (.cells (fdC (p : Int) m).toArray 94)) 512 26 (fl 64 G)).alloc (.cells (zb 512 (fl 64 (fun _ _ => 0))) 26)).alloc (.cells (zb 512 (fl 64 (fun _ _ => 0))) 26)); simpa using this
 have B3 : Blk W1 (w.heap.size + 1 + 1 + 1) 512 26 (fl 64 (fun _ _ => 0)) := by subst hwo; have := ((Blk.new (((w.alloc (.cells (zb 512 (fl 64 F)) 26)).alloc (.cells (fdC (p : Int) m).toArray 94)).alloc (.cells (zb 512 (fl 64 G)) 26)) 512 26 (fl 64 (fun _ _ => 0))).alloc (.cells (zb 512 (fl 64 (fun _ _ => 0))) 26)); simpa using this
 have B4 : Blk W1 (w.heap.size + 1 + 1 + 1 + 1) 512 26 (fl 64 (fun _ _ => 0)) := by subst hwo; have := (Blk.new ((((w.alloc (.cells (zb 512 (fl 64 F)) 26)).alloc (.cells (fdC (p : Int) m).toArray 94)).alloc (.cells (zb 512 (fl 64 G)) 26)).alloc (.cells (zb 512 (fl 64 (fun _ _ => 0))) 26)) 512 26 (fl 64 (fun _ _ => 0))); simpa using this
 have hb : Below w.heap.size w W1 := by subst hwo; exact ((((((Below.refl _ _).alloc (Nat.le_refl _) _).alloc (by simp) _).alloc (by simp; omega) _).alloc (by simp; omega) _).alloc (by simp; omega) _)
 rw [← hwo]
 clear hwo
 go_upto_region 2 with (first | rw [← z64] | rw [← zero512])
 have lt_B0 := B0.lt
 have lt_B1 := B1.lt
 have lt_B2 := B2.lt
 have lt_B3 := B3.lt
 have lt_B4 := B4.lt
 have lhb := hb.size
 obtain ⟨W2, hwo, hzQ⟩ : ∃ v : World, v = (W1.alloc (.cells (zb 512 (fl 64 (fun _ _ => 0))) 26)) ∧ Blk v (w.heap.size) 512 26 (fl 64 F) ∧ Row v (w.heap.size + 1) 94 (fdC (p : Int) m).toArray ∧ Blk v (w.heap.size + 1 + 1) 512 26 (fl 64 G) ∧ Blk v (w.heap.size + 1 + 1 + 1) 512 26 (fl 64 (fun _ _ => 0)) ∧ Blk v (w.heap.size + 1 + 1 + 1 + 1) 512 26 (fl 64 (fun _ _ => 0)) ∧ Blk v (W1.heap.size) 512 26 (fl 64 (fun _ _ => 0)) ∧ Below w.heap.size w v := ⟨_, rfl, (B0.alloc (.cells (zb 512 (fl 64 (fun _ _ => 0))) 26)), (B1.alloc (.cells (zb 512 (fl 64 (fun _ _ => 0))) 26)), (B2.alloc (.cells (zb 512 (fl 64 (fun _ _ => 0))) 26)), (B3.alloc (.cells (zb 512 (fl 64 (fun _ _ => 0))) 26)), (B4.alloc (.cells (zb 512 (fl 64 (fun _ _ => 0))) 26)), (Blk.new W1 512 26 (fl 64 (fun _ _ => 0))), (hb.alloc (by have := hb.size; simp; omega) (.cells (zb 512 (fl 64 (fun _ _ => 0))) 26))⟩
 rw [← hwo]
 clear hwo B0 B1 B2 B3 B4 hb
 obtain ⟨B0, B1, B2, B3, B4, B5, hb⟩ := hzQ
 obtain ⟨N1, hNN⟩ : ∃ n : Nat, n = W1.heap.size := ⟨_, rfl⟩
 rw [← hNN] at lt_B0 lt_B1 lt_B2 lt_B3 lt_B4 lhb B5 ⊢
 clear hNN
 have zN1_0 := lt_B0
 have zN1_1 := lt_B1
 have zN1_2 := lt_B2
 have zN1_3 := lt_B3
 have zN1_4 := lt_B4
 have zN1 := lhb
 clear lt_B0 lt_B1 lt_B2 lt_B3 lt_B4 lhb
 try simp only [Act.put, pA, pB, pC]
 refine zq Try.mixed (by kernel_rfl) (by kernel_rfl) (fun v => by (simp only [frL, Act.put, pA, pB, pC, Nat.reduceAdd, Nat.zero_add]; exact rfl))
  (fun L v W3 => Below W2.heap.size W2 W3 ∧ VF L v [some (.agg (zb 512 (fl 64 F))), some (.int .i64 (n : Int)), some (.agg (zb 512 (fl 64 G))), some (.int .i64 (k : Int)), some (.int .i64 (q : Int)), some (.int .i64 (q : Int))]) ?_ ?_ ?_
 · intro v hv0
   exact ⟨(Below.refl _ W2).drew, VF.start⟩
 · refine (.cons rfl ?_ (.cons rfl ?_ (.cons rfl ?_ (.cons rfl ?_ (.cons rfl ?_ (.cons rfl ?_ (.nil _)))))))
   all_goals intro L v W3 hd hn ⟨hY, V⟩ K hK
   · refine zlc (B0.zw hY) Try.underlying26 Try.size26 ?_
     exact hK _ _ _ rfl ⟨hY, V.step 0 rfl⟩
   · have e0 := V.at (zdq hd 0 rfl) rfl
     go_wp2_with (go_at_call 86; refine (HDF.out _).mono ?_; rintro e wy ⟨rfl, hy⟩)
     exact hK _ (.int .i64 (n : Int)) _ (by simp only [Act.put, pA, pB, pC, e0]) ⟨hY.trans (hy.mono hY.size), V.step 1 rfl⟩
   · refine zlc (B2.zw hY) Try.underlying26 Try.size26 ?_
     exact hK _ _ _ rfl ⟨hY, V.step 2 rfl⟩
   · have e2 := V.at (zdq hd 2 rfl) rfl
     go_wp2_with (go_at_call 86; refine (HDG.out _).mono ?_; rintro e wy ⟨rfl, hy⟩)
     exact hK _ (.int .i64 (k : Int)) _ (by simp only [Act.put, pA, pB, pC, e2]) ⟨hY.trans (hy.mono hY.size), V.step 3 rfl⟩
   · have e1 := V.at (zdq hd 1 rfl) rfl
     have e3 := V.at (zdq hd 3 rfl) rfl
     go_wp2_with fail
     exact hK _ (.int .i64 (q : Int)) _ (by simp only [Act.put, pA, pB, pC, e1, e3]) ⟨hY, V.step 4 rfl⟩
   · have e4 := V.at (zdq hd 4 rfl) rfl
     go_wp2_with fail
     exact hK _ (.int .i64 (q : Int)) _ (by simp only [Act.put, pA, pB, pC, e4]) ⟨hY, V.step 5 rfl⟩
 · intro L v W3 hL ⟨hY, V⟩
   have e0 := V.at (hL 0 (by decide)) rfl
   have e1 := V.at (hL 1 (by decide)) rfl
   have e2 := V.at (hL 2 (by decide)) rfl
   have e3 := V.at (hL 3 (by decide)) rfl
   have e4 := V.at (hL 4 (by decide)) rfl
   have e5 := V.at (hL 5 (by decide)) rfl
   clear hL V
   replace B0 := B0.zw hY
   replace B1 := B1.zw hY
   replace B2 := B2.zw hY
   replace B3 := B3.zw hY
   replace B4 := B4.zw hY
   replace B5 := B5.zw hY
   replace hb := hb.trans (hY.mono hb.size)
   clear hY
   simp only [Exit.then, e0, e1, e2, e3, e4, e5]
   clear e0 e1 e2 e3 e4 e5
   go_upto_region 3 with (fail)
   have lt_B0 : (w.heap.size) < W3.heap.size := B0.lt
   have lt_B1 : (w.heap.size + 1) < W3.heap.size := B1.lt
   have lt_B2 : (w.heap.size + 1 + 1) < W3.heap.size := B2.lt
   have lt_B3 : (w.heap.size + 1 + 1 + 1) < W3.heap.size := B3.lt
   have lt_B4 : (w.heap.size + 1 + 1 + 1 + 1) < W3.heap.size := B4.lt
   have lt_B5 : (N1) < W3.heap.size := B5.lt
   have hbase : w.heap.size ≤ W3.heap.size := hb.size
   refine zq Try.mixed (by kernel_rfl) (by kernel_rfl) (fun v => by (simp only [frL, Act.put, pA, pB, pC, Nat.reduceAdd, Nat.zero_add]; exact rfl))
    (fun L v W4 => Below w.heap.size w W4 ∧ Kx [N1] W3 W4 ∧ (∃ g, Blk W4 (N1) 512 26 (g)) ∧ (L 11 = false → Blk W4 (N1) 512 26 (fl 64 (fun _ _ => 0))) ∧ (L 11 = true → Blk W4 (N1) 512 26 (fl 64 (updR (fun _ _ => 0) q (mmP p (F n) (bzU p (frN p m (G k) (q % d)) m) m)))) ∧ VF L v [some (.int .i64 (q : Int)), some (.agg (fdC (p : Int) m).toArray), some (.agg (zb 512 (fl 64 F))), some (.agg (zb 64 (F n))), some (.agg (fdC (p : Int) m).toArray), some (.agg (zb 512 (fl 64 G))), some (.agg (zb 64 (G k))), some (.int .i64 (q : Int)), some (.agg (zb 64 (frN p m (G k) (q % d)))), some (.agg (zb 64 (mmP p (F n) (bzU p (frN p m (G k) (q % d)) m) m))), some (.pointer (some ⟨N1, q * 64, none⟩)), none]) ?_ ?_ ?_
   · intro v hv0
     exact ⟨hb.drew, Kx.start _ _, ⟨_, B5.drew⟩, (fun _ => B5.drew), (fun h => by cases h), VF.start⟩
   · refine (.cons rfl ?_ (.cons rfl ?_ (.cons rfl ?_ (.cons rfl ?_ (.cons rfl ?_ (.cons rfl ?_ (.cons rfl ?_ (.cons rfl ?_ (.cons rfl ?_ (.cons rfl ?_ (.cons rfl ?_ (.cons rfl ?_ (.nil _)))))))))))))
     all_goals intro L v W4 hd hn ⟨hB, hX, x5, q5, n5, V⟩ K hK
     · go_wp2_with fail
       exact hK _ (.int .i64 (q : Int)) _ (by simp only [Act.put, pA, pB, pC ]) ⟨hB, hX, x5, q5, n5, V.step 0 rfl⟩
     · refine wp_load_rowv 94 _ rfl _ rfl 94 _ (B1.kx hX (by simp <;> omega)) _ Try.underlying94 rfl 65 Try.size94 (by simp [fdC_len]) ?_
       exact hK _ _ _ rfl ⟨hB, hX, x5, q5, n5, V.step 1 rfl⟩
     · refine wp_load_any 26 _ rfl _ rfl 512 26 _ (B0.kx hX (by simp <;> omega)) _ Try.underlying26 rfl Try.size26 ?_
       exact hK _ _ _ rfl ⟨hB, hX, x5, q5, n5, V.step 2 rfl⟩
     · have e2 := V.at (zdq hd 2 rfl) rfl
       go_wp2_with (go_at_call 186; refine (HLF.out _).mono ?_; rintro e wy ⟨rfl, hy⟩)
       exact hK _ (.agg (zb 64 (F n))) _ (by simp only [Act.put, pA, pB, pC, e2]) ⟨hB.trans (hy.mono hB.size), hX.below hy, (let ⟨g, h⟩ := x5; ⟨g, h.zw hy⟩), (fun h => (q5 h).below hy (q5 h).lt), (fun h => (n5 h).below hy (n5 h).lt), V.step 3 rfl⟩
     · refine wp_load_rowv 94 _ rfl _ rfl 94 _ (B1.kx hX (by simp <;> omega)) _ Try.underlying94 rfl 65 Try.size94 (by simp [fdC_len]) ?_
       exact hK _ _ _ rfl ⟨hB, hX, x5, q5, n5, V.step 4 rfl⟩
     · refine wp_load_any 26 _ rfl _ rfl 512 26 _ (B2.kx hX (by simp <;> omega)) _ Try.underlying26 rfl Try.size26 ?_
       exact hK _ _ _ rfl ⟨hB, hX, x5, q5, n5, V.step 5 rfl⟩
     · have e5 := V.at (zdq hd 5 rfl) rfl
       go_wp2_with (go_at_call 186; refine (HLG.out _).mono ?_; rintro e wy ⟨rfl, hy⟩)
       exact hK _ (.agg (zb 64 (G k))) _ (by simp only [Act.put, pA, pB, pC, e5]) ⟨hB.trans (hy.mono hB.size), hX.below hy, (let ⟨g, h⟩ := x5; ⟨g, h.zw hy⟩), (fun h => (q5 h).below hy (q5 h).lt), (fun h => (n5 h).below hy (n5 h).lt), V.step 6 rfl⟩
     · go_wp2_with fail
       exact hK _ (.int .i64 (q : Int)) _ (by simp only [Act.put, pA, pB, pC ]) ⟨hB, hX, x5, q5, n5, V.step 7 rfl⟩
     · have e4 := V.at (zdq hd 4 rfl) rfl
       have e6 := V.at (zdq hd 6 rfl) rfl
       have e7 := V.at (zdq hd 7 rfl) rfl
       go_wp2_with (go_at_call 179; refine (HFB.out _).mono ?_; rintro e wy ⟨rfl, hy⟩)
       exact hK _ (.agg (zb 64 (frN p m (G k) (q % d)))) _ (by simp only [Act.put, pA, pB, pC, e4, e6, e7]) ⟨hB.trans (hy.mono hB.size), hX.below hy, (let ⟨g, h⟩ := x5; ⟨g, h.zw hy⟩), (fun h => (q5 h).below hy (q5 h).lt), (fun h => (n5 h).below hy (n5 h).lt), V.step 8 rfl⟩
     · have e1 := V.at (zdq hd 1 rfl) rfl
       have e3 := V.at (zdq hd 3 rfl) rfl
       have e8 := V.at (zdq hd 8 rfl) rfl
       go_wp2_with (go_at_call 185; refine (HQ.out _).mono ?_; rintro e wy ⟨rfl, hy⟩)
       exact hK _ (.agg (zb 64 (mmP p (F n) (bzU p (frN p m (G k) (q % d)) m) m))) _ (by simp only [Act.put, pA, pB, pC, e1, e3, e8]) ⟨hB.trans (hy.mono hB.size), hX.below hy, (let ⟨g, h⟩ := x5; ⟨g, h.zw hy⟩), (fun h => (q5 h).below hy (q5 h).lt), (fun h => (n5 h).below hy (n5 h).lt), V.step 9 rfl⟩
     · have e0 := V.at (zdq hd 0 rfl) rfl
       go_wp2_with fail
       exact hK _ (.pointer (some ⟨N1, q * 64, none⟩)) _ (by simp only [Act.put, pA, pB, pC, e0]) ⟨hB, hX, x5, q5, n5, V.step 10 rfl⟩
     · have e10 := V.at (zdq hd 10 rfl) rfl
       have e9 := V.at (zdq hd 9 rfl) rfl
       obtain ⟨gz, hk, hg⟩ : ∃ gz, Blk W4 (N1) 512 26 (fl 64 gz) ∧ updR gz (q) (mmP p (F n) (bzU p (frN p m (G k) (q % d)) m) m) = updR (fun _ _ => 0) (q) (mmP p (F n) (bzU p (frN p m (G k) (q % d)) m) m) := by
        cases hL : L 11 with
        | false => exact ⟨_, q5 hL, rfl⟩
        | true => exact ⟨_, n5 hL, updR_twice _ _ _⟩
       refine wp_store_sk 24 _ _ rfl _ (q) (mmP p (F n) (bzU p (frN p m (G k) (q % d)) m) m) e10 e9 26 gz hk (by omega) Try.size24 ?_
       rw [hg]
       exact hK _ undef _ rfl ⟨zr hB (by omega) _, hX.row (by simp) _, ⟨_, hk.row _⟩, (fun h => absurd h (by simp [setL])), (fun _ => hk.row _), V.skip 11 rfl⟩
   · intro L v W4 hL ⟨hB, hX, x5, q5, n5, V⟩
     have r5 := n5 (hL 11 (by decide))
     have e0 := V.at (hL 0 (by decide)) rfl
     have e1 := V.at (hL 1 (by decide)) rfl
     have e2 := V.at (hL 2 (by decide)) rfl
     have e3 := V.at (hL 3 (by decide)) rfl
     have e4 := V.at (hL 4 (by decide)) rfl
     have e5 := V.at (hL 5 (by decide)) rfl
     have e6 := V.at (hL 6 (by decide)) rfl
     have e7 := V.at (hL 7 (by decide)) rfl
     have e8 := V.at (hL 8 (by decide)) rfl
     have e9 := V.at (hL 9 (by decide)) rfl
     have e10 := V.at (hL 10 (by decide)) rfl
     clear hL x5 q5 n5 V
     replace B0 := B0.kx hX (by simp <;> omega)
     replace B1 := B1.kx hX (by simp <;> omega)
     replace B2 := B2.kx hX (by simp <;> omega)
     replace B3 := B3.kx hX (by simp <;> omega)
     replace B4 := B4.kx hX (by simp <;> omega)
     clear hX
     simp only [Exit.then, e0, e1, e2, e3, e4, e5, e6, e7, e8, e9, e10]
     clear e0 e1 e2 e3 e4 e5 e6 e7 e8 e9 e10
     replace B5 := r5
     clear r5
     replace hb := hB
     clear hB
     clear hbase lt_B0 lt_B1 lt_B2 lt_B3 lt_B4 lt_B5
     go_upto_region 4 with (fail)
     have lt_B0 : (w.heap.size) < W4.heap.size := B0.lt
     have lt_B1 : (w.heap.size + 1) < W4.heap.size := B1.lt
     have lt_B2 : (w.heap.size + 1 + 1) < W4.heap.size := B2.lt
     have lt_B3 : (w.heap.size + 1 + 1 + 1) < W4.heap.size := B3.lt
     have lt_B4 : (w.heap.size + 1 + 1 + 1 + 1) < W4.heap.size := B4.lt
     have lt_B5 : (N1) < W4.heap.size := B5.lt
     have hbase : w.heap.size ≤ W4.heap.size := hb.size
     refine zq Try.mixed (by kernel_rfl) (by kernel_rfl) (fun v => by (simp only [frL, Act.put, pA, pB, pC, Nat.reduceAdd, Nat.zero_add]; exact rfl))
      (fun L v W5 => Below w.heap.size w W5 ∧ Kx [w.heap.size + 1 + 1 + 1, w.heap.size + 1 + 1 + 1 + 1] W4 W5 ∧ (∃ g, Blk W5 (w.heap.size + 1 + 1 + 1) 512 26 (g)) ∧ (L 5 = false → Blk W5 (w.heap.size + 1 + 1 + 1) 512 26 (fl 64 (fun _ _ => 0))) ∧ (L 5 = true → Blk W5 (w.heap.size + 1 + 1 + 1) 512 26 (fl 64 (updR (fun _ _ => 0) q (mmP p (F n) (bzU p (frN p m (G k) (q % d)) m) m)))) ∧ (∃ g, Blk W5 (w.heap.size + 1 + 1 + 1 + 1) 512 26 (g)) ∧ (L 6 = false → Blk W5 (w.heap.size + 1 + 1 + 1 + 1) 512 26 (fl 64 (fun _ _ => 0))) ∧ (L 6 = true → Blk W5 (w.heap.size + 1 + 1 + 1 + 1) 512 26 (fl 64 (tmP p m d (dvT p m d F G) G))) ∧ VF L v [some (.agg (zb 512 (fl 64 (updR (fun _ _ => 0) q (mmP p (F n) (bzU p (frN p m (G k) (q % d)) m) m))))), some (.agg (zb 512 (fl 64 (updR (fun _ _ => 0) q (mmP p (F n) (bzU p (frN p m (G k) (q % d)) m) m))))), some (.agg (fdC (p : Int) m).toArray), some (.agg (zb 512 (fl 64 G))), some (.agg (zb 512 (fl 64 (tmP p m d (dvT p m d F G) G)))), none, none]) ?_ ?_ ?_
     · intro v hv0
       exact ⟨hb.drew, Kx.start _ _, ⟨_, B3.drew⟩, (fun _ => B3.drew), (fun h => by cases h), ⟨_, B4.drew⟩, (fun _ => B4.drew), (fun h => by cases h), VF.start⟩
     · refine (.cons rfl ?_ (.cons rfl ?_ (.cons rfl ?_ (.cons rfl ?_ (.cons rfl ?_ (.cons rfl ?_ (.cons rfl ?_ (.nil _))))))))
       all_goals intro L v W5 hd hn ⟨hB, hX, x3, q3, n3, x4, q4, n4, V⟩ K hK
       · refine wp_load_any 26 _ rfl _ rfl 512 26 _ (B5.kx hX (by simp <;> omega)) _ Try.underlying26 rfl Try.size26 ?_
         exact hK _ _ _ rfl ⟨hB, hX, x3, q3, n3, x4, q4, n4, V.step 0 rfl⟩
       · refine wp_load_any 26 _ rfl _ rfl 512 26 _ (B5.kx hX (by simp <;> omega)) _ Try.underlying26 rfl Try.size26 ?_
         exact hK _ _ _ rfl ⟨hB, hX, x3, q3, n3, x4, q4, n4, V.step 1 rfl⟩
       · refine wp_load_rowv 94 _ rfl _ rfl 94 _ (B1.kx hX (by simp <;> omega)) _ Try.underlying94 rfl 65 Try.size94 (by simp [fdC_len]) ?_
         exact hK _ _ _ rfl ⟨hB, hX, x3, q3, n3, x4, q4, n4, V.step 2 rfl⟩
       · refine wp_load_any 26 _ rfl _ rfl 512 26 _ (B2.kx hX (by simp <;> omega)) _ Try.underlying26 rfl Try.size26 ?_
         exact hK _ _ _ rfl ⟨hB, hX, x3, q3, n3, x4, q4, n4, V.step 3 rfl⟩
       · have e1 := V.at (zdq hd 1 rfl) rfl
         have e2 := V.at (zdq hd 2 rfl) rfl
         have e3 := V.at (zdq hd 3 rfl) rfl
         go_wp2_with (go_at_call 87; refine (HTM.out _).mono ?_; rintro e wy ⟨rfl, hy⟩)
         exact hK _ (.agg (zb 512 (fl 64 (tmP p m d (dvT p m d F G) G)))) _ (by simp only [Act.put, pA, pB, pC, e1, e2, e3]) ⟨hB.trans (hy.mono hB.size), hX.below hy, (let ⟨g, h⟩ := x3; ⟨g, h.zw hy⟩), (fun h => (q3 h).below hy (q3 h).lt), (fun h => (n3 h).below hy (n3 h).lt), (let ⟨g, h⟩ := x4; ⟨g, h.zw hy⟩), (fun h => (q4 h).below hy (q4 h).lt), (fun h => (n4 h).below hy (n4 h).lt), V.step 4 rfl⟩
       · have e0 := V.at (zdq hd 0 rfl) rfl
         obtain ⟨gz, hk⟩ := x3
         refine zsb 26 _ _ rfl _ 512 (fl 64 (updR (fun _ _ => 0) q (mmP p (F n) (bzU p (frN p m (G k) (q % d)) m) m))) rfl e0 26 gz hk Try.size26 ?_
         exact hK _ undef _ rfl ⟨zr hB (by omega) _, hX.row (by simp) _, ⟨_, hk.row _⟩, (fun h => absurd h (by simp [setL])), (fun _ => hk.row _), (let ⟨g, h⟩ := x4; ⟨g, (h).rowOther (by omega)⟩), (fun h => (q4 h).rowOther (by omega)), (fun h => (n4 h).rowOther (by omega)), V.skip 5 rfl⟩
       · have e4 := V.at (zdq hd 4 rfl) rfl
         obtain ⟨gz, hk⟩ := x4
         refine zsb 26 _ _ rfl _ 512 (fl 64 (tmP p m d (dvT p m d F G) G)) rfl e4 26 gz hk Try.size26 ?_
         exact hK _ undef _ rfl ⟨zr hB (by omega) _, hX.row (by simp) _, (let ⟨g, h⟩ := x3; ⟨g, (h).rowOther (by omega)⟩), (fun h => (q3 h).rowOther (by omega)), (fun h => (n3 h).rowOther (by omega)), ⟨_, hk.row _⟩, (fun h => absurd h (by simp [setL])), (fun _ => hk.row _), V.skip 6 rfl⟩
     · intro L v W5 hL ⟨hB, hX, x3, q3, n3, x4, q4, n4, V⟩
       have r3 := n3 (hL 5 (by decide))
       have r4 := n4 (hL 6 (by decide))
       have e0 := V.at (hL 0 (by decide)) rfl
       have e1 := V.at (hL 1 (by decide)) rfl
       have e2 := V.at (hL 2 (by decide)) rfl
       have e3 := V.at (hL 3 (by decide)) rfl
       have e4 := V.at (hL 4 (by decide)) rfl
       clear hL x3 q3 n3 x4 q4 n4 V
       replace B0 := B0.kx hX (by simp <;> omega)
       replace B1 := B1.kx hX (by simp <;> omega)
       replace B2 := B2.kx hX (by simp <;> omega)
       replace B5 := B5.kx hX (by simp <;> omega)
       clear hX
       simp only [Exit.then, e0, e1, e2, e3, e4]
       clear e0 e1 e2 e3 e4
       replace B3 := r3
       clear r3
       replace B4 := r4
       clear r4
       replace hb := hB
       clear hB
       clear hbase lt_B0 lt_B1 lt_B2 lt_B3 lt_B4 lt_B5
       go_wp2_with fail
       refine bodyPost_ret (results_any2 rfl _ _ _ 512 _ _ _ 512 _ _ rfl B3 _ Try.underlying26 rfl Try.size26 rfl B4 _ Try.underlying26 rfl Try.size26) rfl ⟨by rw [HT.out], hb⟩
end Go.Proofs.Ytdlojnmggogbaaa
end
section
namespace Go.Proofs.Ytdlojnmggogbaaa
open Go Go.RowKit
set_option linter.unusedVariables false
set_option linter.unusedSimpArgs false
attribute [local irreducible] deg addK strP frI frN mmP pmP resP bzU bzD bzW skA skD
theorem dq_def (p : Nat) (m : Nat → Nat) (d : Nat) (F G : Nat → Nat → Nat) : gdR p (fun F => dvT p m d F G) (fun F => dvF p m d F G) (skD G) 8 (fun _ _ => 0) F = dq p m d F G := by unfold dq; rfl
set_option maxRecDepth 100000 in
set_option maxHeartbeats 1600000 in
theorem skDivR_any (p : Nat) (m : Nat → Nat) (F0 G : Nat → Nat → Nat) (w : World) (hpr : p = 2 ∨ p = 3 ∨ p = 5 ∨ p = 7) (lm : ∀ k, k < 64 → m k < p) (d : Nat) (hmon : mon m d) (hi : irr p (cut m) d) (hd9 : d ≤ 9) (hF : rsk p m F0) (hG : rsk p m G) (hG0 : 0 ≤ skD G) :
 Calls Try.prog 184 #[.agg (zb 512 (fl 64 F0)), .agg (fdC (p : Int) m).toArray, .agg (zb 512 (fl 64 G)), .func (.func 91) #[] #[]] w fun e w' => e = .returned (.tuple #[.agg (zb 512 (fl 64 (dq p m d F0 G).1)), .agg (zb 512 (fl 64 (dq p m d F0 G).2))]) ∧ Below w.heap.size w w' := by
 have p0 : 0 < p := by omega
 have hd := hmon.1
 have hd1 := hi.1
 have h0 : 0 ≤ deg m := by omega
 have h9 : deg m ≤ 9 := by omega
 have p2 : 2 ≤ p := by omega
 have p7 : p ≤ 7 := by omega
 have HI0 := Lib.hid (show gdR p (fun F => dvT p m d F G) (fun F => dvF p m d F G) (skD G) 8 (fun _ _ => 0) F0 = dq p m d F0 G ∧ skD F0 < ((8 : Nat) : Int) ∧ rsk p m (fun _ _ => 0) ∧ rsk p m F0 from ⟨dq_def p m d F0 G, by have := zsd F0; omega, fun _ _ => zero_rsd p0 h0, hF⟩)
 have HS := Lib.hid (fun (F : Nat → Nat → Nat) (hF : rsk p m F) (h : skD G ≤ skD F) => dv_step hpr lm hmon hi hd9 hF hG hG0 h)
 have HST := Lib.hid (fun (F : Nat → Nat → Nat) (hF : rsk p m F) (h : skD G ≤ skD F) W => rightStep_any p m F G W hpr lm d hmon hi hd9 hF hG hG0 h)
 have HPL := Lib.hid (fun (Q T : Nat → Nat → Nat) (hQ : rsk p m Q) (hT : rsk p m T) W => skPlus_any p m Q T W p2 p7 (fun i hi8 => (hQ i hi8).1) (fun i hi8 => (hT i hi8).1))
 have HMI := Lib.hid (fun (Q T : Nat → Nat → Nat) (hQ : rsk p m Q) (hT : rsk p m T) W => skMinus_any p m Q T W p2 p7 (fun i hi8 => (hQ i hi8).1) (fun i hi8 => (hT i hi8).1))
 have HP := Lib.hid (fun (F G : Nat → Nat → Nat) => show rsk p m (tmP p m d F G) from fun i _ => tmP_rsd hpr lm h0 i)
 have HA := Lib.hid (fun (Q T : Nat → Nat → Nat) (hQ : rsk p m Q) (hT : rsk p m T) => show rsk p m (skA p Q T 1) from skA_rsk p0 h0 hQ hT)
 clear hF hG hd hd1 h0 h9 hmon hi lm hpr
 have HG0 := Lib.hid hG0
 clear hG0
 go_enter Try.func184, Try.ntmps184
 go_upto_region 1 with (fail)
 rw [← zero512]
 obtain ⟨W1, hwo⟩ : ∃ v : World, v = (((((w.alloc (.cells (zb 512 (fl 64 F0)) 26)).alloc (.cells (fdC (p : Int) m).toArray 94)).alloc (.cells (zb 512 (fl 64 G)) 26)).alloc (.cells (zb 512 (fl 64 (fun _ _ => 0))) 26)).alloc (.cells (zb 512 (fl 64 (fun _ _ => 0))) 26)) := ⟨_, rfl⟩
 have B0 : Blk W1 (w.heap.size) 512 26 (fl 64 F0) := by subst hwo; have := (((((Blk.new w 512 26 (fl 64 F0)).alloc (.cells (fdC (p : Int) m).toArray 94)).alloc (.cells (zb 512 (fl 64 G)) 26)).alloc (.cells (zb 512 (fl 64 (fun _ _ => 0))) 26)).alloc (.cells (zb 512 (fl 64 (fun _ _ => 0))) 26)); simpa using this
 have B1 : Row W1 (w.heap.size + 1) 94 (fdC (p : Int) m).toArray := by subst hwo; have := ((((Row.new (w.alloc (.cells (zb 512 (fl 64 F0)) 26)) 94 (fdC (p : Int) m).toArray).alloc (.cells (zb 512 (fl 64 G)) 26)).alloc (.cells (zb 512 (fl 64 (fun _ _ => 0))) 26)).alloc (.cells (zb 512 (fl 64 (fun _ _ => 0))) 26)); simpa using this
 have B2 : Blk W1 (w.heap.size + 1 + 1) 512 26 (fl 64 G) := by subst hwo; have := (((Blk.new ((w.alloc (.cells (zb 512 (fl 64 F0)) 26)).alloc (.cells (fdC (p : Int) m).toArray 94)) 512 26 (fl 64 G)).alloc (.cells (zb 512 (fl 64 (fun _ _ => 0))) 26)).alloc (.cells (zb 512 (fl 64 (fun _ _ => 0))) 26)); simpa using this
 have B3 : Blk W1 (w.heap.size + 1 + 1 + 1) 512 26 (fl 64 (fun _ _ => 0)) := by subst hwo; have := ((Blk.new (((w.alloc (.cells (zb 512 (fl 64 F0)) 26)).alloc (.cells (fdC (p : Int) m).toArray 94)).alloc (.cells (zb 512 (fl 64 G)) 26)) 512 26 (fl 64 (fun _ _ => 0))).alloc (.cells (zb 512 (fl 64 (fun _ _ => 0))) 26)); simpa using this
 have B4 : Blk W1 (w.heap.size + 1 + 1 + 1 + 1) 512 26 (fl 64 (fun _ _ => 0)) := by subst hwo; have := (Blk.new ((((w.alloc (.cells (zb 512 (fl 64 F0)) 26)).alloc (.cells (fdC (p : Int) m).toArray 94)).alloc (.cells (zb 512 (fl 64 G)) 26)).alloc (.cells (zb 512 (fl 64 (fun _ _ => 0))) 26)) 512 26 (fl 64 (fun _ _ => 0))); simpa using this
 have hb : Below w.heap.size w W1 := by subst hwo; exact ((((((Below.refl _ _).alloc (Nat.le_refl _) _).alloc (by simp) _).alloc (by simp; omega) _).alloc (by simp; omega) _).alloc (by simp; omega) _)
 rw [← hwo]
 clear hwo
 go_upto_region 2 with (first | rw [← z64] | rw [← zero512])
 have lt_B0 := B0.lt
 have lt_B1 := B1.lt
 have lt_B2 := B2.lt
 have lt_B3 := B3.lt
 have lt_B4 := B4.lt
 have lhb := hb.size
 obtain ⟨W2, hwo, hzQ⟩ : ∃ v : World, v = (W1.alloc (.cells (zb 512 (fl 64 (fun _ _ => 0))) 26)) ∧ Blk v (w.heap.size) 512 26 (fl 64 F0) ∧ Row v (w.heap.size + 1) 94 (fdC (p : Int) m).toArray ∧ Blk v (w.heap.size + 1 + 1) 512 26 (fl 64 G) ∧ Blk v (w.heap.size + 1 + 1 + 1) 512 26 (fl 64 (fun _ _ => 0)) ∧ Blk v (w.heap.size + 1 + 1 + 1 + 1) 512 26 (fl 64 (fun _ _ => 0)) ∧ Blk v (W1.heap.size) 512 26 (fl 64 (fun _ _ => 0)) ∧ Below w.heap.size w v := ⟨_, rfl, (B0.alloc (.cells (zb 512 (fl 64 (fun _ _ => 0))) 26)), (B1.alloc (.cells (zb 512 (fl 64 (fun _ _ => 0))) 26)), (B2.alloc (.cells (zb 512 (fl 64 (fun _ _ => 0))) 26)), (B3.alloc (.cells (zb 512 (fl 64 (fun _ _ => 0))) 26)), (B4.alloc (.cells (zb 512 (fl 64 (fun _ _ => 0))) 26)), (Blk.new W1 512 26 (fl 64 (fun _ _ => 0))), (hb.alloc (by have := hb.size; simp; omega) (.cells (zb 512 (fl 64 (fun _ _ => 0))) 26))⟩
 rw [← hwo]
 clear hwo B0 B1 B2 B3 B4 hb
 obtain ⟨B0, B1, B2, B3, B4, B5, hb⟩ := hzQ
 obtain ⟨N1, hNN⟩ : ∃ n : Nat, n = W1.heap.size := ⟨_, rfl⟩
 rw [← hNN] at lt_B0 lt_B1 lt_B2 lt_B3 lt_B4 lhb B5 ⊢
 clear hNN
 have zN1_0 := lt_B0
 have zN1_1 := lt_B1
 have zN1_2 := lt_B2
 have zN1_3 := lt_B3
 have zN1_4 := lt_B4
 have zN1 := lhb
 clear lt_B0 lt_B1 lt_B2 lt_B3 lt_B4 lhb
 try simp only [Act.put, pA, pB, pC]
 go_wp2_with fail
 go_loopw [13] (fun c wr => ∃ (fu : Nat) (Q F : Nat → Nat → Nat), Hid (gdR p (fun F => dvT p m d F G) (fun F => dvF p m d F G) (skD G) fu Q F = dq p m d F0 G ∧ skD F < (fu : Int) ∧ rsk p m Q ∧ rsk p m F) ∧ Below w.heap.size w wr ∧ Blk wr (w.heap.size) 512 26 (fl 64 F) ∧ Row wr (w.heap.size + 1) 94 (fdC (p : Int) m).toArray ∧ Blk wr (w.heap.size + 1 + 1) 512 26 (fl 64 G) ∧ Blk wr (w.heap.size + 1 + 1 + 1) 512 26 (fl 64 (fun _ _ => 0)) ∧ Blk wr (w.heap.size + 1 + 1 + 1 + 1) 512 26 (fl 64 (fun _ _ => 0)) ∧ Blk wr (N1) 512 26 (fl 64 Q)) (fun _ wr => skAt wr (w.heap.size))
 case atStart => exact ⟨8, _, _, HI0, hb, B0, B1, B2, B3, B4, B5⟩
 case round =>
  clear hb B0 B1 B2 B3 B4 B5 HI0
  obtain ⟨fu, Q, F, hI, hb, B0, B1, B2, B3, B4, B5⟩ := hrel
  have BF0 := Lib.hid B0
  by_cases hge : skD G ≤ skD F
  · obtain ⟨i1, i2, i3, i4⟩ := hI.out
    obtain ⟨s1, s2, s3, s4, s5, s6⟩ := HS.out F i4 hge
    obtain ⟨fu, rfl⟩ : ∃ x, fu = x + 1 := ⟨fu - 1, by have := HG0.out; omega⟩
    have hI2 := Lib.hid (show gdR p (fun F => dvT p m d F G) (fun F => dvF p m d F G) (skD G) fu (skA p Q (dvT p m d F G) 1) (dvF p m d F G) = dq p m d F0 G ∧ skD (dvF p m d F G) < (fu : Int) ∧ rsk p m (skA p Q (dvT p m d F G) 1) ∧ rsk p m (dvF p m d F G) from ⟨by rw [← i1, gdR_step (by omega)], by omega, HA.out _ _ i3 s4, s5⟩)
    have HK1 := Lib.hid (HST.out F i4 hge)
    have HK2 := Lib.hid (HPL.out Q (dvT p m d F G) i3 s4)
    have HK3 := Lib.hid (HMI.out F (tmP p m d (dvT p m d F G) G) i4 (HP.out _ _))
    have HM := Lib.hid s6
    clear i1 i2 i3 i4 s1 s2 s3 s4 s5 s6 hI
    go_upto_region 2 with (fail)
    refine zq Try.mixed (by kernel_rfl) (by kernel_rfl) (fun v => by (simp only [frL, Act.put, pA, pB, pC, Nat.reduceAdd, Nat.zero_add]; exact rfl))
     (fun L v W3 => Below wr.heap.size wr W3 ∧ VF L v [some (.agg (zb 512 (fl 64 F))), some (.int .i64 (skD F)), some (.agg (zb 512 (fl 64 G))), some (.int .i64 (skD G)), some (.bool true)]) ?_ ?_ ?_
    · intro v hv0
      exact ⟨(Below.refl _ wr).drew, VF.start⟩
    · refine (.cons rfl ?_ (.cons rfl ?_ (.cons rfl ?_ (.cons rfl ?_ (.cons rfl ?_ (.nil _))))))
      all_goals intro L v W3 hd hn ⟨hY, V⟩ K hK
      · refine zlc (B0.zw hY) Try.underlying26 Try.size26 ?_
        exact hK _ _ _ rfl ⟨hY, V.step 0 rfl⟩
      · have e0 := V.at (zdq hd 0 rfl) rfl
        go_wp2_with (go_at_call 86; refine (skDegree_any F _).mono ?_; rintro e wy ⟨rfl, hy⟩)
        exact hK _ (.int .i64 (skD F)) _ (by simp only [Act.put, pA, pB, pC, e0]) ⟨hY.trans (hy.mono hY.size), V.step 1 rfl⟩
      · refine zlc (B2.zw hY) Try.underlying26 Try.size26 ?_
        exact hK _ _ _ rfl ⟨hY, V.step 2 rfl⟩
      · have e2 := V.at (zdq hd 2 rfl) rfl
        go_wp2_with (go_at_call 86; refine (skDegree_any G _).mono ?_; rintro e wy ⟨rfl, hy⟩)
        exact hK _ (.int .i64 (skD G)) _ (by simp only [Act.put, pA, pB, pC, e2]) ⟨hY.trans (hy.mono hY.size), V.step 3 rfl⟩
      · have e1 := V.at (zdq hd 1 rfl) rfl
        have e3 := V.at (zdq hd 3 rfl) rfl
        go_wp2_with fail
        try rw [show decide (skD G ≤ skD F) = true by simpa using hge]
        exact hK _ (.bool true) _ (by simp only [Act.put, pA, pB, pC, e1, e3]) ⟨hY, V.step 4 rfl⟩
    · intro L v W3 hL ⟨hY, V⟩
      have e0 := V.at (hL 0 (by decide)) rfl
      have e1 := V.at (hL 1 (by decide)) rfl
      have e2 := V.at (hL 2 (by decide)) rfl
      have e3 := V.at (hL 3 (by decide)) rfl
      have e4 := V.at (hL 4 (by decide)) rfl
      clear hL V
      replace B0 := B0.zw hY
      replace B1 := B1.zw hY
      replace B2 := B2.zw hY
      replace B3 := B3.zw hY
      replace B4 := B4.zw hY
      replace B5 := B5.zw hY
      replace hb := hb.trans (hY.mono hb.size)
      clear hY
      simp only [Exit.then, e0, e1, e2, e3, e4]
      clear e0 e1 e2 e3 e4
      go_upto_region 3 with (fail)
      have lt_B0 := B0.lt
      have lt_B1 := B1.lt
      have lt_B2 := B2.lt
      have lt_B3 := B3.lt
      have lt_B4 := B4.lt
      have lt_B5 := B5.lt
      go_upto_region 4 with (first | rw [← z64] | rw [← zero512] | (refine zla (.tmp 4) B0 Try.underlying26 Try.size26 ?_) | (refine zlr rfl 94 (.tmp 5) rfl _ rfl 94 (fdC (p : Int) m).toArray B1 _ Try.underlying94 rfl 65 Try.size94 (by simp [fdC_len]) ?_) | (refine zla (.tmp 6) B2 Try.underlying26 Try.size26 ?_) | (go_at_call 91; refine (HK1.out _).mono ?_; rintro e W4 ⟨rfl, hW4⟩; replace B0 := B0.zw hW4; replace B1 := B1.zw hW4; replace B2 := B2.zw hW4; replace B3 := B3.zw hW4; replace B4 := B4.zw hW4; replace B5 := B5.zw hW4; replace hb := (hb).trans (hW4.mono (hb).size)) | (refine wpList_store_blk rfl 26 (.tmp 11) (.tmp 24) rfl _ 512 (fl 64 (dvT p m d F G)) rfl rfl 26 _ (((Blk.new W4 512 26 (fl 64 (fun _ _ => 0))).alloc (.cells (zb 512 (fl 64 (fun _ _ => 0))) 26))) Try.size26 ?_; try simp only [Act.put]) | (refine wpList_store_blk rfl 26 (.tmp 12) (.tmp 25) rfl _ 512 (fl 64 (tmP p m d (dvT p m d F G) G)) rfl rfl 26 _ (((show Blk ((W4.alloc (.cells (zb 512 (fl 64 (fun _ _ => 0))) 26)).alloc (.cells (zb 512 (fl 64 (fun _ _ => 0))) 26)) (W4.heap.size + 1) 512 26 (fl 64 (fun _ _ => 0)) by have := Blk.new (W4.alloc (.cells (zb 512 (fl 64 (fun _ _ => 0))) 26)) 512 26 (fl 64 (fun _ _ => 0)); simpa using this).rowOther (by omega))) Try.size26 ?_; try simp only [Act.put]))
      have lt_B0 := B0.lt
      have lt_B1 := B1.lt
      have lt_B2 := B2.lt
      have lt_B3 := B3.lt
      have lt_B4 := B4.lt
      have lt_B5 := B5.lt
      have lhb := hb.size
      obtain ⟨W5, hwo, hzQ⟩ : ∃ v : World, v = ((((W4.alloc (.cells (zb 512 (fl 64 (fun _ _ => 0))) 26)).alloc (.cells (zb 512 (fl 64 (fun _ _ => 0))) 26)).setRow (W4.heap.size) (zb 512 (fl 64 (dvT p m d F G)))).setRow (W4.heap.size + 1) (zb 512 (fl 64 (tmP p m d (dvT p m d F G) G)))) ∧ Blk v (w.heap.size) 512 26 (fl 64 F) ∧ Row v (w.heap.size + 1) 94 (fdC (p : Int) m).toArray ∧ Blk v (w.heap.size + 1 + 1) 512 26 (fl 64 G) ∧ Blk v (w.heap.size + 1 + 1 + 1) 512 26 (fl 64 (fun _ _ => 0)) ∧ Blk v (w.heap.size + 1 + 1 + 1 + 1) 512 26 (fl 64 (fun _ _ => 0)) ∧ Blk v (N1) 512 26 (fl 64 Q) ∧ Blk v (W4.heap.size) 512 26 (fl 64 (dvT p m d F G)) ∧ Blk v (W4.heap.size + 1) 512 26 (fl 64 (tmP p m d (dvT p m d F G) G)) ∧ Below w.heap.size w v := ⟨_, rfl, ((((B0.alloc (.cells (zb 512 (fl 64 (fun _ _ => 0))) 26)).alloc (.cells (zb 512 (fl 64 (fun _ _ => 0))) 26)).rowOther (by omega)).rowOther (by omega)), ((((B1.alloc (.cells (zb 512 (fl 64 (fun _ _ => 0))) 26)).alloc (.cells (zb 512 (fl 64 (fun _ _ => 0))) 26)).rowOther (by omega)).rowOther (by omega)), ((((B2.alloc (.cells (zb 512 (fl 64 (fun _ _ => 0))) 26)).alloc (.cells (zb 512 (fl 64 (fun _ _ => 0))) 26)).rowOther (by omega)).rowOther (by omega)), ((((B3.alloc (.cells (zb 512 (fl 64 (fun _ _ => 0))) 26)).alloc (.cells (zb 512 (fl 64 (fun _ _ => 0))) 26)).rowOther (by omega)).rowOther (by omega)), ((((B4.alloc (.cells (zb 512 (fl 64 (fun _ _ => 0))) 26)).alloc (.cells (zb 512 (fl 64 (fun _ _ => 0))) 26)).rowOther (by omega)).rowOther (by omega)), ((((B5.alloc (.cells (zb 512 (fl 64 (fun _ _ => 0))) 26)).alloc (.cells (zb 512 (fl 64 (fun _ _ => 0))) 26)).rowOther (by omega)).rowOther (by omega)), ((((Blk.new W4 512 26 (fl 64 (fun _ _ => 0))).alloc (.cells (zb 512 (fl 64 (fun _ _ => 0))) 26)).row (fl 64 (dvT p m d F G))).rowOther (by omega)), (((show Blk ((W4.alloc (.cells (zb 512 (fl 64 (fun _ _ => 0))) 26)).alloc (.cells (zb 512 (fl 64 (fun _ _ => 0))) 26)) (W4.heap.size + 1) 512 26 (fl 64 (fun _ _ => 0)) by have := Blk.new (W4.alloc (.cells (zb 512 (fl 64 (fun _ _ => 0))) 26)) 512 26 (fl 64 (fun _ _ => 0)); simpa using this).rowOther (by omega)).row (fl 64 (tmP p m d (dvT p m d F G) G))), (zr (zr ((hb.alloc (by have := hb.size; simp; omega) (.cells (zb 512 (fl 64 (fun _ _ => 0))) 26)).alloc (by have := hb.size; simp; omega) (.cells (zb 512 (fl 64 (fun _ _ => 0))) 26)) (by omega) _) (by omega) _)⟩
      rw [← hwo]
      clear hwo B0 B1 B2 B3 B4 B5 hb
      obtain ⟨B0, B1, B2, B3, B4, B5, B6, B7, hb⟩ := hzQ
      obtain ⟨N2, hNN⟩ : ∃ n : Nat, n = W4.heap.size := ⟨_, rfl⟩
      rw [← hNN] at lt_B0 lt_B1 lt_B2 lt_B3 lt_B4 lt_B5 lhb B6 B7 ⊢
      clear hNN
      have zN2_0 := lt_B0
      have zN2_1 := lt_B1
      have zN2_2 := lt_B2
      have zN2_3 := lt_B3
      have zN2_4 := lt_B4
      have zN2_5 := lt_B5
      have zN2 := lhb
      clear lt_B0 lt_B1 lt_B2 lt_B3 lt_B4 lt_B5 lhb
      try simp only [Act.put, pA, pB, pC]
      have lt_B0 := B0.lt
      have lt_B1 := B1.lt
      have lt_B2 := B2.lt
      have lt_B3 := B3.lt
      have lt_B4 := B4.lt
      have lt_B5 := B5.lt
      have lt_B6 := B6.lt
      have lt_B7 := B7.lt
      go_upto_region 5 with (first | rw [← z64] | rw [← zero512] | (refine zla (.tmp 10) B5 Try.underlying26 Try.size26 ?_) | (refine zlr rfl 94 (.tmp 5) rfl _ rfl 94 (fdC (p : Int) m).toArray B1 _ Try.underlying94 rfl 65 Try.size94 (by simp [fdC_len]) ?_) | (refine zla (.tmp 11) B6 Try.underlying26 Try.size26 ?_) | (go_at_call 235; refine (HK2.out _).mono ?_; rintro e W6 ⟨rfl, hW6⟩; replace B0 := B0.zw hW6; replace B1 := B1.zw hW6; replace B2 := B2.zw hW6; replace B3 := B3.zw hW6; replace B4 := B4.zw hW6; replace B5 := B5.zw hW6; replace B6 := B6.zw hW6; replace B7 := B7.zw hW6; replace hb := (hb).trans (hW6.mono (hb).size)) | (refine zsr (.tmp 10) (.tmp 29) (fl 64 (skA p Q (dvT p m d F G) 1)) B5 Try.size26 ?_; try simp only [Act.put]))
      obtain ⟨W7, hwo, hzQ⟩ : ∃ v : World, v = (W6.setRow (N1) (zb 512 (fl 64 (skA p Q (dvT p m d F G) 1)))) ∧ Blk v (w.heap.size) 512 26 (fl 64 F) ∧ Row v (w.heap.size + 1) 94 (fdC (p : Int) m).toArray ∧ Blk v (w.heap.size + 1 + 1) 512 26 (fl 64 G) ∧ Blk v (w.heap.size + 1 + 1 + 1) 512 26 (fl 64 (fun _ _ => 0)) ∧ Blk v (w.heap.size + 1 + 1 + 1 + 1) 512 26 (fl 64 (fun _ _ => 0)) ∧ Blk v (N1) 512 26 (fl 64 (skA p Q (dvT p m d F G) 1)) ∧ Blk v (N2) 512 26 (fl 64 (dvT p m d F G)) ∧ Blk v (N2 + 1) 512 26 (fl 64 (tmP p m d (dvT p m d F G) G)) ∧ Below w.heap.size w v := ⟨_, rfl, (B0.rowOther (by omega)), (B1.rowOther (by omega)), (B2.rowOther (by omega)), (B3.rowOther (by omega)), (B4.rowOther (by omega)), (B5.row (fl 64 (skA p Q (dvT p m d F G) 1))), (B6.rowOther (by omega)), (B7.rowOther (by omega)), (zr hb (by omega) _)⟩
      rw [← hwo]
      clear hwo B0 B1 B2 B3 B4 B5 B6 B7 hb
      obtain ⟨B0, B1, B2, B3, B4, B5, B6, B7, hb⟩ := hzQ
      try simp only [Act.put, pA, pB, pC]
      have lt_B0 := B0.lt
      have lt_B1 := B1.lt
      have lt_B2 := B2.lt
      have lt_B3 := B3.lt
      have lt_B4 := B4.lt
      have lt_B5 := B5.lt
      have lt_B6 := B6.lt
      have lt_B7 := B7.lt
      go_wp2_with (first | rw [← z64] | rw [← zero512] | (refine zla (.tmp 4) B0 Try.underlying26 Try.size26 ?_) | (refine zlr rfl 94 (.tmp 5) rfl _ rfl 94 (fdC (p : Int) m).toArray B1 _ Try.underlying94 rfl 65 Try.size94 (by simp [fdC_len]) ?_) | (refine zla (.tmp 12) B7 Try.underlying26 Try.size26 ?_) | (go_at_call 188; refine (HK3.out _).mono ?_; rintro e W8 ⟨rfl, hW8⟩; replace B0 := B0.zw hW8; replace B1 := B1.zw hW8; replace B2 := B2.zw hW8; replace B3 := B3.zw hW8; replace B4 := B4.zw hW8; replace B5 := B5.zw hW8; replace B6 := B6.zw hW8; replace B7 := B7.zw hW8; replace hb := (hb).trans (hW8.mono (hb).size)) | (refine zsr (.tmp 4) (.tmp 33) (fl 64 (skA p F (tmP p m d (dvT p m d F G) G) (-1))) B0 Try.size26 ?_; try simp only [Act.put]))
      obtain ⟨W9, hwo, hzQ⟩ : ∃ v : World, v = (W8.setRow (w.heap.size) (zb 512 (fl 64 (skA p F (tmP p m d (dvT p m d F G) G) (-1))))) ∧ Blk v (w.heap.size) 512 26 (fl 64 (skA p F (tmP p m d (dvT p m d F G) G) (-1))) ∧ Row v (w.heap.size + 1) 94 (fdC (p : Int) m).toArray ∧ Blk v (w.heap.size + 1 + 1) 512 26 (fl 64 G) ∧ Blk v (w.heap.size + 1 + 1 + 1) 512 26 (fl 64 (fun _ _ => 0)) ∧ Blk v (w.heap.size + 1 + 1 + 1 + 1) 512 26 (fl 64 (fun _ _ => 0)) ∧ Blk v (N1) 512 26 (fl 64 (skA p Q (dvT p m d F G) 1)) ∧ Blk v (N2) 512 26 (fl 64 (dvT p m d F G)) ∧ Blk v (N2 + 1) 512 26 (fl 64 (tmP p m d (dvT p m d F G) G)) ∧ Below w.heap.size w v := ⟨_, rfl, (B0.row (fl 64 (skA p F (tmP p m d (dvT p m d F G) G) (-1)))), (B1.rowOther (by omega)), (B2.rowOther (by omega)), (B3.rowOther (by omega)), (B4.rowOther (by omega)), (B5.rowOther (by omega)), (B6.rowOther (by omega)), (B7.rowOther (by omega)), (zr hb (by omega) _)⟩
      rw [← hwo]
      clear hwo B0 B1 B2 B3 B4 B5 B6 B7 hb
      obtain ⟨B0, B1, B2, B3, B4, B5, B6, B7, hb⟩ := hzQ
      try simp only [Act.put, pA, pB, pC]
      go_roundw
      case rel => exact ⟨fu, _, _, hI2, hb, B0, B1, B2, B3, B4, B5⟩
      case measure => rw [skAt_blk B0, skAt_blk BF0.out]; have h1 := HM.out; have h2 := HG0.out; have h3 : skD (skA p F (tmP p m d (dvT p m d F G) G) (-1)) < skD F := h1; omega
  · have HV := Lib.hid (show (Q, F) = dq p m d F0 G by rw [← hI.out.1, gdR_stop (by omega)])
    go_upto_region 2 with (fail)
    refine zq Try.mixed (by kernel_rfl) (by kernel_rfl) (fun v => by (simp only [frL, Act.put, pA, pB, pC, Nat.reduceAdd, Nat.zero_add]; exact rfl))
     (fun L v W3 => Below wr.heap.size wr W3 ∧ VF L v [some (.agg (zb 512 (fl 64 F))), some (.int .i64 (skD F)), some (.agg (zb 512 (fl 64 G))), some (.int .i64 (skD G)), some (.bool false)]) ?_ ?_ ?_
    · intro v hv0
      exact ⟨(Below.refl _ wr).drew, VF.start⟩
    · refine (.cons rfl ?_ (.cons rfl ?_ (.cons rfl ?_ (.cons rfl ?_ (.cons rfl ?_ (.nil _))))))
      all_goals intro L v W3 hd hn ⟨hY, V⟩ K hK
      · refine zlc (B0.zw hY) Try.underlying26 Try.size26 ?_
        exact hK _ _ _ rfl ⟨hY, V.step 0 rfl⟩
      · have e0 := V.at (zdq hd 0 rfl) rfl
        go_wp2_with (go_at_call 86; refine (skDegree_any F _).mono ?_; rintro e wy ⟨rfl, hy⟩)
        exact hK _ (.int .i64 (skD F)) _ (by simp only [Act.put, pA, pB, pC, e0]) ⟨hY.trans (hy.mono hY.size), V.step 1 rfl⟩
      · refine zlc (B2.zw hY) Try.underlying26 Try.size26 ?_
        exact hK _ _ _ rfl ⟨hY, V.step 2 rfl⟩
      · have e2 := V.at (zdq hd 2 rfl) rfl
        go_wp2_with (go_at_call 86; refine (skDegree_any G _).mono ?_; rintro e wy ⟨rfl, hy⟩)
        exact hK _ (.int .i64 (skD G)) _ (by simp only [Act.put, pA, pB, pC, e2]) ⟨hY.trans (hy.mono hY.size), V.step 3 rfl⟩
      · have e1 := V.at (zdq hd 1 rfl) rfl
        have e3 := V.at (zdq hd 3 rfl) rfl
        go_wp2_with fail
        try rw [show decide (skD G ≤ skD F) = false by simpa using hge]
        exact hK _ (.bool false) _ (by simp only [Act.put, pA, pB, pC, e1, e3]) ⟨hY, V.step 4 rfl⟩
    · intro L v W3 hL ⟨hY, V⟩
      have e0 := V.at (hL 0 (by decide)) rfl
      have e1 := V.at (hL 1 (by decide)) rfl
      have e2 := V.at (hL 2 (by decide)) rfl
      have e3 := V.at (hL 3 (by decide)) rfl
      have e4 := V.at (hL 4 (by decide)) rfl
      clear hL V
      replace B0 := B0.zw hY
      replace B1 := B1.zw hY
      replace B2 := B2.zw hY
      replace B3 := B3.zw hY
      replace B4 := B4.zw hY
      replace B5 := B5.zw hY
      replace hb := hb.trans (hY.mono hb.size)
      clear hY
      simp only [Exit.then, e0, e1, e2, e3, e4]
      clear e0 e1 e2 e3 e4
      go_upto_region 6 with (fail)
      have lt_B0 : (w.heap.size) < W3.heap.size := B0.lt
      have lt_B1 : (w.heap.size + 1) < W3.heap.size := B1.lt
      have lt_B2 : (w.heap.size + 1 + 1) < W3.heap.size := B2.lt
      have lt_B3 : (w.heap.size + 1 + 1 + 1) < W3.heap.size := B3.lt
      have lt_B4 : (w.heap.size + 1 + 1 + 1 + 1) < W3.heap.size := B4.lt
      have lt_B5 : (N1) < W3.heap.size := B5.lt
      have hbase : w.heap.size ≤ W3.heap.size := hb.size
      refine zq Try.mixed (by kernel_rfl) (by kernel_rfl) (fun v => by (simp only [frL, Act.put, pA, pB, pC, Nat.reduceAdd, Nat.zero_add]; exact rfl))
       (fun L v W4 => Below w.heap.size w W4 ∧ Kx [w.heap.size + 1 + 1 + 1, w.heap.size + 1 + 1 + 1 + 1] W3 W4 ∧ (∃ g, Blk W4 (w.heap.size + 1 + 1 + 1) 512 26 (g)) ∧ (L 2 = false → Blk W4 (w.heap.size + 1 + 1 + 1) 512 26 (fl 64 (fun _ _ => 0))) ∧ (L 2 = true → Blk W4 (w.heap.size + 1 + 1 + 1) 512 26 (fl 64 Q)) ∧ (∃ g, Blk W4 (w.heap.size + 1 + 1 + 1 + 1) 512 26 (g)) ∧ (L 3 = false → Blk W4 (w.heap.size + 1 + 1 + 1 + 1) 512 26 (fl 64 (fun _ _ => 0))) ∧ (L 3 = true → Blk W4 (w.heap.size + 1 + 1 + 1 + 1) 512 26 (fl 64 F)) ∧ VF L v [some (.agg (zb 512 (fl 64 Q))), some (.agg (zb 512 (fl 64 F))), none, none]) ?_ ?_ ?_
      · intro v hv0
        exact ⟨hb.drew, Kx.start _ _, ⟨_, B3.drew⟩, (fun _ => B3.drew), (fun h => by cases h), ⟨_, B4.drew⟩, (fun _ => B4.drew), (fun h => by cases h), VF.start⟩
      · refine (.cons rfl ?_ (.cons rfl ?_ (.cons rfl ?_ (.cons rfl ?_ (.nil _)))))
        all_goals intro L v W4 hd hn ⟨hB, hX, x3, q3, n3, x4, q4, n4, V⟩ K hK
        · refine wp_load_any 26 _ rfl _ rfl 512 26 _ (B5.kx hX (by simp <;> omega)) _ Try.underlying26 rfl Try.size26 ?_
          exact hK _ _ _ rfl ⟨hB, hX, x3, q3, n3, x4, q4, n4, V.step 0 rfl⟩
        · refine wp_load_any 26 _ rfl _ rfl 512 26 _ (B0.kx hX (by simp <;> omega)) _ Try.underlying26 rfl Try.size26 ?_
          exact hK _ _ _ rfl ⟨hB, hX, x3, q3, n3, x4, q4, n4, V.step 1 rfl⟩
        · have e0 := V.at (zdq hd 0 rfl) rfl
          obtain ⟨gz, hk⟩ := x3
          refine zsb 26 _ _ rfl _ 512 (fl 64 Q) rfl e0 26 gz hk Try.size26 ?_
          exact hK _ undef _ rfl ⟨zr hB (by omega) _, hX.row (by simp) _, ⟨_, hk.row _⟩, (fun h => absurd h (by simp [setL])), (fun _ => hk.row _), (let ⟨g, h⟩ := x4; ⟨g, (h).rowOther (by omega)⟩), (fun h => (q4 h).rowOther (by omega)), (fun h => (n4 h).rowOther (by omega)), V.skip 2 rfl⟩
        · have e1 := V.at (zdq hd 1 rfl) rfl
          obtain ⟨gz, hk⟩ := x4
          refine zsb 26 _ _ rfl _ 512 (fl 64 F) rfl e1 26 gz hk Try.size26 ?_
          exact hK _ undef _ rfl ⟨zr hB (by omega) _, hX.row (by simp) _, (let ⟨g, h⟩ := x3; ⟨g, (h).rowOther (by omega)⟩), (fun h => (q3 h).rowOther (by omega)), (fun h => (n3 h).rowOther (by omega)), ⟨_, hk.row _⟩, (fun h => absurd h (by simp [setL])), (fun _ => hk.row _), V.skip 3 rfl⟩
      · intro L v W4 hL ⟨hB, hX, x3, q3, n3, x4, q4, n4, V⟩
        have r3 := n3 (hL 2 (by decide))
        have r4 := n4 (hL 3 (by decide))
        have e0 := V.at (hL 0 (by decide)) rfl
        have e1 := V.at (hL 1 (by decide)) rfl
        clear hL x3 q3 n3 x4 q4 n4 V
        replace B0 := B0.kx hX (by simp <;> omega)
        replace B1 := B1.kx hX (by simp <;> omega)
        replace B2 := B2.kx hX (by simp <;> omega)
        replace B5 := B5.kx hX (by simp <;> omega)
        clear hX
        simp only [Exit.then, e0, e1]
        clear e0 e1
        replace B3 := r3
        clear r3
        replace B4 := r4
        clear r4
        replace hb := hB
        clear hB
        clear hbase lt_B0 lt_B1 lt_B2 lt_B3 lt_B4 lt_B5
        go_wp2_with fail
        refine bodyPost_ret (results_any2 rfl _ _ _ 512 _ _ _ 512 _ _ rfl B3 _ Try.underlying26 rfl Try.size26 rfl B4 _ Try.underlying26 rfl Try.size26) rfl ⟨by rw [← HV.out], hb⟩
end Go.Proofs.Ytdlojnmggogbaaa
end
section
namespace Go.Proofs.Ytdlojnmggogbaaa
open Go Go.RowKit
set_option linter.unusedVariables false
set_option linter.unusedSimpArgs false
attribute [local irreducible] deg addK strP frI frN mmP pmP resP bzU bzD bzW skA skD
set_option maxRecDepth 100000 in
set_option maxHeartbeats 1600000 in
theorem l03Right_any (p : Nat) (m : Nat → Nat) (F0 G : Nat → Nat → Nat) (w : World) (hpr : p = 2 ∨ p = 3 ∨ p = 5 ∨ p = 7) (lm : ∀ k, k < 64 → m k < p) (d : Nat) (hmon : mon m d) (hi : irr p (cut m) d) (hd9 : d ≤ 9) (hF : rsk p m F0) (hG : rsk p m G) (hG0 : 0 ≤ skD G) :
 Calls Try.prog 89 #[.int .i64 (p : Int), .agg (zb 64 m), .agg (zb 512 (fl 64 F0)), .agg (zb 512 (fl 64 G))] w fun e w' => e = .returned (.tuple #[.agg (zb 512 (fl 64 (dq p m d F0 G).1)), .agg (zb 512 (fl 64 (dq p m d F0 G).2))]) ∧ Below w.heap.size w w' := by
 have p0 : 0 < p := by omega
 have hd := hmon.1
 have hd1 := hi.1
 have h0 : 0 ≤ deg m := by omega
 have h9 : deg m ≤ 9 := by omega
 have p2 : 2 ≤ p := by omega
 have p7 : p ≤ 7 := by omega
 have HI0 := Lib.hid (show skD F0 < ((8 : Nat) : Int) ∧ rsk p m F0 from ⟨by have := zsd F0; omega, hF⟩)
 have HE := Lib.hid (show zb 512 (fl 64 (gdU (fun F => dvA p m d F G) (fun F => dvF p m d F G) (skD G) 8 (fun _ _ => 0) F0).1) = zb 512 (fl 64 (dq p m d F0 G).1) ∧ (gdU (fun F => dvA p m d F G) (fun F => dvF p m d F G) (skD G) 8 (fun _ _ => 0) F0).2 = (dq p m d F0 G).2 from by
  obtain ⟨a, b⟩ := gdU_eq p0 h0 (GD_right hpr lm hmon hi hd9 hG hG0) 8 (fun _ _ => 0) (fun _ _ => 0) F0 (fun _ _ => zero_rsd p0 h0) hF (fun _ _ _ _ => rfl) (fun _ _ _ _ _ => rfl)
  unfold dq
  exact ⟨zbc (n := 512) (fl_congr (n := 8) (c := 64) (by decide) b), a⟩)
 obtain ⟨k, hk⟩ : ∃ k : Nat, skD G = (k : Int) := ⟨(skD G).toNat, by omega⟩
 obtain ⟨k8, gk⟩ := skN_row hk
 have HS := Lib.hid (fun (F : Nat → Nat → Nat) (hF : rsk p m F) (h : skD G ≤ skD F) => dv_step hpr lm hmon hi hd9 hF hG hG0 h)
 have HIV := Lib.hid (fun (y : Nat → Nat) (hy : rsd p m y) W => l03Inverse_any p m y W hpr lm h0 hy.1)
 have HFR := Lib.hid (fun q (hq : q ≤ 1000) W => l03Frobenius_any p m (G k) q W hpr lm d hd hd1 hd9 hq (hG k k8))
 have HRF := Lib.hid (fun q => (frN_ok hpr lm h0 h9 (hG k k8) q).1)
 have HMM := Lib.hid (show ∀ (F : Nat → Nat → Nat) (n q : Nat), rsk p m F → skD F = (n : Int) → n - k = q → ∀ W, Calls Try.prog 174 #[.int .i64 (p : Int), .agg (zb 64 (F n)), .agg (zb 64 (resP p (bzU p (frN p m (G k) (q % d)) m) m)), .agg (zb 64 m)] W fun e w' => e = .returned (.agg (zb 64 (dvA p m d F G))) ∧ Below W.heap.size W w' from fun F n q hF hn hq W => by
  have hu : ∀ k, k < 64 → bzU p (frN p m (G k) (q % d)) m k < p := fun k _ => bzU_lt p0 k
  have h := l01MulMod_any p (F n) (resP p (bzU p (frN p m (G k) (q % d)) m) m) m W hpr (hF n (skN_row hn).1).1 (resP_lt p0 (fun k _ => bzU_lt p0 k)) lm h0
  rw [zbc (mmP_rest (a := F n) hpr (fun k _ => bzU_lt p0 k) lm hmon)] at h
  unfold dvA
  rw [hn, hk, show (n : Int).toNat - (k : Int).toNat = q by omega]
  exact h)
 have HTE := Lib.hid (show ∀ (F : Nat → Nat → Nat) (n q : Nat), skD F = (n : Int) → n - k = q → q < 8 → ∀ W, Calls Try.prog 182 #[.agg (zb 64 (dvA p m d F G)), .int .i64 (q : Int)] W fun e w' => e = .returned (.agg (zb 512 (fl 64 (dvT p m d F G)))) ∧ Below W.heap.size W w' from fun F n q hn hq q8 W => by
  have h := l03Term_any (dvA p m d F G) q q8 W
  unfold dvT sng
  rw [hn, hk, show (n : Int).toNat - (k : Int).toNat = q by omega]
  exact h)
 have HTI := Lib.hid (fun (T : Nat → Nat → Nat) (hT : rsk p m T) (h : skD T + skD G ≤ 7) W => l03Times_ok p m T G W hpr lm d hd hd1 hd9 (fun i hi8 => (hT i hi8).1) hG (by omega))
 have HAD := Lib.hid (fun (Q T : Nat → Nat → Nat) (hQ : rsk p m Q) (hT : rsk p m T) W => l03Add_any p Q T (-1) W p2 p7 (by omega) (by omega) (fun i hi8 => (hQ i hi8).1) (fun i hi8 => (hT i hi8).1))
 have HP := Lib.hid (fun (F G : Nat → Nat → Nat) => show rsk p m (tmP p m d F G) from fun i _ => tmP_rsd hpr lm h0 i)
 have HRG := Lib.hid (hG k k8)
 have HGD := Lib.hid (show ∀ W, Calls Try.prog 80 #[.agg (zb 512 (fl 64 G))] W fun e w' => e = .returned (.int .i64 (k : Int)) ∧ Below W.heap.size W w' from fun W => by have := l03Deg_any G W; rwa [hk] at this)
 have HK := Lib.hid hk
 clear hF hG hd hd1 h0 h9 hmon hi lm hpr hG0 gk hk
 go_enter Try.func89, Try.ntmps89
 go_upto_region 1 with (fail)
 rw [← zero512]
 obtain ⟨W1, hwo⟩ : ∃ v : World, v = (((((w.alloc (.cells (zb 64 (m)) 24)).alloc (.cells (zb 512 (fl 64 F0)) 26)).alloc (.cells (zb 512 (fl 64 G)) 26)).alloc (.cells (zb 512 (fl 64 (fun _ _ => 0))) 26)).alloc (.cells (zb 512 (fl 64 (fun _ _ => 0))) 26)) := ⟨_, rfl⟩
 have B0 : Blk W1 (w.heap.size) 64 24 (m) := by subst hwo; have := (((((Blk.new w 64 24 (m)).alloc (.cells (zb 512 (fl 64 F0)) 26)).alloc (.cells (zb 512 (fl 64 G)) 26)).alloc (.cells (zb 512 (fl 64 (fun _ _ => 0))) 26)).alloc (.cells (zb 512 (fl 64 (fun _ _ => 0))) 26)); simpa using this
 have B1 : Blk W1 (w.heap.size + 1) 512 26 (fl 64 F0) := by subst hwo; have := ((((Blk.new (w.alloc (.cells (zb 64 (m)) 24)) 512 26 (fl 64 F0)).alloc (.cells (zb 512 (fl 64 G)) 26)).alloc (.cells (zb 512 (fl 64 (fun _ _ => 0))) 26)).alloc (.cells (zb 512 (fl 64 (fun _ _ => 0))) 26)); simpa using this
 have B2 : Blk W1 (w.heap.size + 1 + 1) 512 26 (fl 64 G) := by subst hwo; have := (((Blk.new ((w.alloc (.cells (zb 64 (m)) 24)).alloc (.cells (zb 512 (fl 64 F0)) 26)) 512 26 (fl 64 G)).alloc (.cells (zb 512 (fl 64 (fun _ _ => 0))) 26)).alloc (.cells (zb 512 (fl 64 (fun _ _ => 0))) 26)); simpa using this
 have B3 : Blk W1 (w.heap.size + 1 + 1 + 1) 512 26 (fl 64 (fun _ _ => 0)) := by subst hwo; have := ((Blk.new (((w.alloc (.cells (zb 64 (m)) 24)).alloc (.cells (zb 512 (fl 64 F0)) 26)).alloc (.cells (zb 512 (fl 64 G)) 26)) 512 26 (fl 64 (fun _ _ => 0))).alloc (.cells (zb 512 (fl 64 (fun _ _ => 0))) 26)); simpa using this
 have B4 : Blk W1 (w.heap.size + 1 + 1 + 1 + 1) 512 26 (fl 64 (fun _ _ => 0)) := by subst hwo; have := (Blk.new ((((w.alloc (.cells (zb 64 (m)) 24)).alloc (.cells (zb 512 (fl 64 F0)) 26)).alloc (.cells (zb 512 (fl 64 G)) 26)).alloc (.cells (zb 512 (fl 64 (fun _ _ => 0))) 26)) 512 26 (fl 64 (fun _ _ => 0))); simpa using this
 have hb : Below w.heap.size w W1 := by subst hwo; exact ((((((Below.refl _ _).alloc (Nat.le_refl _) _).alloc (by simp) _).alloc (by simp; omega) _).alloc (by simp; omega) _).alloc (by simp; omega) _)
 rw [← hwo]
 clear hwo
 have lt_B0 := B0.lt
 have lt_B1 := B1.lt
 have lt_B2 := B2.lt
 have lt_B3 := B3.lt
 have lt_B4 := B4.lt
 go_upto_region 2 with (first | rw [← z64] | rw [← zero512] | (refine zla (.tmp 7) B2 Try.underlying26 Try.size26 ?_) | (go_at_call 80; refine (HGD.out _).mono ?_; rintro e W2 ⟨rfl, hW2⟩; replace B0 := B0.zw hW2; replace B1 := B1.zw hW2; replace B2 := B2.zw hW2; replace B3 := B3.zw hW2; replace B4 := B4.zw hW2; replace hb := (hb).trans (hW2.mono (hb).size)) | (refine wpList_store_blk rfl 26 (.tmp 10) (.tmp 16) rfl _ 512 (fl 64 (fun _ _ => 0)) rfl rfl 26 _ ((Blk.new W2 512 26 (fl 64 (fun _ _ => 0)))) Try.size26 ?_; try simp only [Act.put]; go_upto_region 2 with (fail)))
 have lt_B0 := B0.lt
 have lt_B1 := B1.lt
 have lt_B2 := B2.lt
 have lt_B3 := B3.lt
 have lt_B4 := B4.lt
 have lhb := hb.size
 obtain ⟨W3, hwo, hzQ⟩ : ∃ v : World, v = ((W2.alloc (.cells (zb 512 (fl 64 (fun _ _ => 0))) 26)).setRow (W2.heap.size) (zb 512 (fl 64 (fun _ _ => 0)))) ∧ Blk v (w.heap.size) 64 24 (m) ∧ Blk v (w.heap.size + 1) 512 26 (fl 64 F0) ∧ Blk v (w.heap.size + 1 + 1) 512 26 (fl 64 G) ∧ Blk v (w.heap.size + 1 + 1 + 1) 512 26 (fl 64 (fun _ _ => 0)) ∧ Blk v (w.heap.size + 1 + 1 + 1 + 1) 512 26 (fl 64 (fun _ _ => 0)) ∧ Blk v (W2.heap.size) 512 26 (fl 64 (fun _ _ => 0)) ∧ Below w.heap.size w v := ⟨_, rfl, ((B0.alloc (.cells (zb 512 (fl 64 (fun _ _ => 0))) 26)).rowOther (by omega)), ((B1.alloc (.cells (zb 512 (fl 64 (fun _ _ => 0))) 26)).rowOther (by omega)), ((B2.alloc (.cells (zb 512 (fl 64 (fun _ _ => 0))) 26)).rowOther (by omega)), ((B3.alloc (.cells (zb 512 (fl 64 (fun _ _ => 0))) 26)).rowOther (by omega)), ((B4.alloc (.cells (zb 512 (fl 64 (fun _ _ => 0))) 26)).rowOther (by omega)), ((Blk.new W2 512 26 (fl 64 (fun _ _ => 0))).row (fl 64 (fun _ _ => 0))), (zr (hb.alloc (by have := hb.size; simp; omega) (.cells (zb 512 (fl 64 (fun _ _ => 0))) 26)) (by omega) _)⟩
 rw [← hwo]
 clear hwo B0 B1 B2 B3 B4 hb
 obtain ⟨B0, B1, B2, B3, B4, B5, hb⟩ := hzQ
 obtain ⟨N1, hNN⟩ : ∃ n : Nat, n = W2.heap.size := ⟨_, rfl⟩
 rw [← hNN] at lt_B0 lt_B1 lt_B2 lt_B3 lt_B4 lhb B5 ⊢
 clear hNN
 have zN1_0 := lt_B0
 have zN1_1 := lt_B1
 have zN1_2 := lt_B2
 have zN1_3 := lt_B3
 have zN1_4 := lt_B4
 have zN1 := lhb
 clear lt_B0 lt_B1 lt_B2 lt_B3 lt_B4 lhb
 try simp only [Act.put, pA, pB, pC]
 go_upto_region 99 with (first | (refine zla (.tmp 6) B1 Try.underlying26 Try.size26 ?_) | (go_at_call 80; refine (l03Deg_any F0 _).mono ?_; rintro e W4 ⟨rfl, hW4⟩; replace B0 := B0.zw hW4; replace B1 := B1.zw hW4; replace B2 := B2.zw hW4; replace B3 := B3.zw hW4; replace B4 := B4.zw hW4; replace B5 := B5.zw hW4; replace hb := (hb).trans (hW4.mono (hb).size)))
 go_loopw [12] (fun c wr => ∃ (fu : Nat) (Q F : Nat → Nat → Nat), c = .int .i64 (skD F) ∧ Hid (gdU (fun F => dvA p m d F G) (fun F => dvF p m d F G) (skD G) fu Q F = gdU (fun F => dvA p m d F G) (fun F => dvF p m d F G) (skD G) 8 (fun _ _ => 0) F0 ∧ skD F < (fu : Int) ∧ rsk p m F) ∧ Below w.heap.size w wr ∧ Blk wr (w.heap.size) 64 24 m ∧ Blk wr (w.heap.size + 1) 512 26 (fl 64 F) ∧ Blk wr (w.heap.size + 1 + 1) 512 26 (fl 64 G) ∧ Blk wr (w.heap.size + 1 + 1 + 1) 512 26 (fl 64 (fun _ _ => 0)) ∧ Blk wr (w.heap.size + 1 + 1 + 1 + 1) 512 26 (fl 64 (fun _ _ => 0)) ∧ Blk wr (N1) 512 26 (fl 64 Q)) (fun c _ => (intOf c + 1).toNat)
 case atStart => exact ⟨8, _, _, rfl, Lib.hid ⟨rfl, HI0.out⟩, hb, B0, B1, B2, B3, B4, B5⟩
 case round =>
  clear hb B0 B1 B2 B3 B4 B5 HI0
  obtain ⟨fu, Q, F, rfl, hI, hb, B0, B1, B2, B3, B4, B5⟩ := hrel
  by_cases hge : (k : Int) ≤ skD F
  · obtain ⟨i1, i2, i4⟩ := hI.out
    obtain ⟨s1, s2, s3, s4, s5, s6⟩ := HS.out F i4 (by have := HK.out; omega)
    obtain ⟨fu, rfl⟩ : ∃ x, fu = x + 1 := ⟨fu - 1, by omega⟩
    obtain ⟨n, hn⟩ : ∃ n : Nat, skD F = (n : Int) := ⟨(skD F).toNat, by omega⟩
    obtain ⟨n8, fn⟩ := skN_row hn
    obtain ⟨q, hq⟩ : ∃ q : Nat, n - k = q := ⟨_, rfl⟩
    have q8 : q < 8 := by omega
    have hI2 := Lib.hid (show gdU (fun F => dvA p m d F G) (fun F => dvF p m d F G) (skD G) fu (updR Q q (dvA p m d F G)) (dvF p m d F G) = gdU (fun F => dvA p m d F G) (fun F => dvF p m d F G) (skD G) 8 (fun _ _ => 0) F0 ∧ skD (dvF p m d F G) < (fu : Int) ∧ rsk p m (dvF p m d F G) from ⟨by rw [← i1, gdU_step (by have := HK.out; omega), show (skD F).toNat - (skD G).toNat = q by have := HK.out; omega], by omega, s5⟩)
    have HK1 := Lib.hid (HMM.out F n q i4 hn hq)
    have HK2 := Lib.hid (HTE.out F n q hn hq q8)
    have HK3 := Lib.hid (HTI.out (dvT p m d F G) s4 (by have := HK.out; omega))
    have HK4 := Lib.hid (HAD.out F (tmP p m d (dvT p m d F G) G) i4 (HP.out _ _))
    have HK5 := Lib.hid (HFR.out q (by omega))
    have HK6 := Lib.hid (HIV.out (frN p m (G k) (q % d)) (HRF.out (q % d)))
    have hM := Lib.hid (show skD (dvF p m d F G) < (n : Int) from by omega)
    have HM0 := Lib.hid (show (-1 : Int) ≤ skD (dvF p m d F G) from (zsd _).1)
    rw [hn] at hge ⊢
    have hgeI : (n : Int) ≥ (k : Int) := hge
    have hqI : (n : Int) - (k : Int) = (q : Int) := by omega
    clear i1 i2 i4 s1 s2 s3 s4 s5 s6 hI hn fn hq
    go_upto_region 5 with (fail)
    have lt_B0 : (w.heap.size) < wr.heap.size := B0.lt
    have lt_B1 : (w.heap.size + 1) < wr.heap.size := B1.lt
    have lt_B2 : (w.heap.size + 1 + 1) < wr.heap.size := B2.lt
    have lt_B3 : (w.heap.size + 1 + 1 + 1) < wr.heap.size := B3.lt
    have lt_B4 : (w.heap.size + 1 + 1 + 1 + 1) < wr.heap.size := B4.lt
    have lt_B5 : (N1) < wr.heap.size := B5.lt
    refine zq Try.mixed (by kernel_rfl) (by kernel_rfl) (fun v => by (simp only [frL, Act.put, pA, pB, pC, Nat.reduceAdd, Nat.zero_add]; exact rfl))
     (fun L v W5 => Below wr.heap.size wr W5 ∧ (L 18 = true → AF (v 18) W5 wr.heap.size 64 24) ∧ (L 19 = true → PF (v 18) W5 wr.heap.size 64 24 (dvA p m d F G)) ∧ VF L v [some (.int .i64 (p : Int)), some (.int .i64 (n : Int)), some (.pointer (some ⟨w.heap.size + 1, n * 64, none⟩)), some (.agg (zb 64 (F n))), some (.int .i64 (p : Int)), some (.int .i64 (p : Int)), some (.int .i64 (k : Int)), some (.pointer (some ⟨w.heap.size + 1 + 1, k * 64, none⟩)), some (.agg (zb 64 (G k))), some (.int .i64 (n : Int)), some (.int .i64 (k : Int)), some (.int .i64 (q : Int)), some (.agg (zb 64 (m))), some (.agg (zb 64 (frN p m (G k) (q % d)))), some (.agg (zb 64 (m))), some (.agg (zb 64 (resP p (bzU p (frN p m (G k) (q % d)) m) m))), some (.agg (zb 64 (m))), some (.agg (zb 64 (dvA p m d F G))), none, none]) ?_ ?_ ?_
    · intro v hv0
      exact ⟨(Below.refl _ wr).drew, (fun h => by cases h), (fun h => by cases h), VF.start⟩
    · refine (.cons rfl ?_ (.cons rfl ?_ (.cons rfl ?_ (.cons rfl ?_ (.cons rfl ?_ (.cons rfl ?_ (.cons rfl ?_ (.cons rfl ?_ (.cons rfl ?_ (.cons rfl ?_ (.cons rfl ?_ (.cons rfl ?_ (.cons rfl ?_ (.cons rfl ?_ (.cons rfl ?_ (.cons rfl ?_ (.cons rfl ?_ (.cons rfl ?_ (.cons rfl ?_ (.cons rfl ?_ (.nil _)))))))))))))))))))))
      all_goals intro L v W5 hd hn ⟨hY, h18, h19, V⟩ K hK
      · go_wp2_with fail
        exact hK _ (.int .i64 (p : Int)) _ (by simp only [Act.put, pA, pB, pC ]) ⟨hY, h18, h19, V.step 0 rfl⟩
      · go_wp2_with fail
        exact hK _ (.int .i64 (n : Int)) _ (by simp only [Act.put, pA, pB, pC ]) ⟨hY, h18, h19, V.step 1 rfl⟩
      · have e1 := V.at (zdq hd 1 rfl) rfl
        go_wp2_with fail
        exact hK _ (.pointer (some ⟨w.heap.size + 1, n * 64, none⟩)) _ (by simp only [Act.put, pA, pB, pC, e1]) ⟨hY, h18, h19, V.step 2 rfl⟩
      · have e2 := V.at (zdq hd 2 rfl) rfl
        refine wp_load_mid 24 _ rfl _ (n * 64) e2 _ _ (((B1.zw hY)).sk (by omega)) Try.underlying24 rfl (by rw [zl]; exact Try.size24) ?_
        exact hK _ _ _ rfl ⟨hY, h18, h19, V.step 3 rfl⟩
      · go_wp2_with fail
        exact hK _ (.int .i64 (p : Int)) _ (by simp only [Act.put, pA, pB, pC ]) ⟨hY, h18, h19, V.step 4 rfl⟩
      · go_wp2_with fail
        exact hK _ (.int .i64 (p : Int)) _ (by simp only [Act.put, pA, pB, pC ]) ⟨hY, h18, h19, V.step 5 rfl⟩
      · go_wp2_with fail
        exact hK _ (.int .i64 (k : Int)) _ (by simp only [Act.put, pA, pB, pC ]) ⟨hY, h18, h19, V.step 6 rfl⟩
      · have e6 := V.at (zdq hd 6 rfl) rfl
        go_wp2_with fail
        exact hK _ (.pointer (some ⟨w.heap.size + 1 + 1, k * 64, none⟩)) _ (by simp only [Act.put, pA, pB, pC, e6]) ⟨hY, h18, h19, V.step 7 rfl⟩
      · have e7 := V.at (zdq hd 7 rfl) rfl
        refine wp_load_mid 24 _ rfl _ (k * 64) e7 _ _ (((B2.zw hY)).sk (by omega)) Try.underlying24 rfl (by rw [zl]; exact Try.size24) ?_
        exact hK _ _ _ rfl ⟨hY, h18, h19, V.step 8 rfl⟩
      · go_wp2_with fail
        exact hK _ (.int .i64 (n : Int)) _ (by simp only [Act.put, pA, pB, pC ]) ⟨hY, h18, h19, V.step 9 rfl⟩
      · go_wp2_with fail
        exact hK _ (.int .i64 (k : Int)) _ (by simp only [Act.put, pA, pB, pC ]) ⟨hY, h18, h19, V.step 10 rfl⟩
      · have e9 := V.at (zdq hd 9 rfl) rfl
        have e10 := V.at (zdq hd 10 rfl) rfl
        go_wp2_with fail
        exact hK _ (.int .i64 (q : Int)) _ (by simp only [Act.put, pA, pB, pC, e9, e10]) ⟨hY, h18, h19, V.step 11 rfl⟩
      · refine zlc (B0.zw hY) Try.underlying24 Try.size24 ?_
        exact hK _ _ _ rfl ⟨hY, h18, h19, V.step 12 rfl⟩
      · have e5 := V.at (zdq hd 5 rfl) rfl
        have e8 := V.at (zdq hd 8 rfl) rfl
        have e11 := V.at (zdq hd 11 rfl) rfl
        have e12 := V.at (zdq hd 12 rfl) rfl
        go_wp2_with (go_at_call 175; refine (HK5.out _).mono ?_; rintro e wy ⟨rfl, hy⟩)
        exact hK _ (.agg (zb 64 (frN p m (G k) (q % d)))) _ (by simp only [Act.put, pA, pB, pC, e5, e8, e11, e12]) ⟨hY.trans (hy.mono hY.size), (fun h => (h18 h).below hy), (fun h => (h19 h).below hy), V.step 13 rfl⟩
      · refine zlc (B0.zw hY) Try.underlying24 Try.size24 ?_
        exact hK _ _ _ rfl ⟨hY, h18, h19, V.step 14 rfl⟩
      · have e4 := V.at (zdq hd 4 rfl) rfl
        have e13 := V.at (zdq hd 13 rfl) rfl
        have e14 := V.at (zdq hd 14 rfl) rfl
        go_wp2_with (go_at_call 181; refine (HK6.out _).mono ?_; rintro e wy ⟨rfl, hy⟩)
        exact hK _ (.agg (zb 64 (resP p (bzU p (frN p m (G k) (q % d)) m) m))) _ (by simp only [Act.put, pA, pB, pC, e4, e13, e14]) ⟨hY.trans (hy.mono hY.size), (fun h => (h18 h).below hy), (fun h => (h19 h).below hy), V.step 15 rfl⟩
      · refine zlc (B0.zw hY) Try.underlying24 Try.size24 ?_
        exact hK _ _ _ rfl ⟨hY, h18, h19, V.step 16 rfl⟩
      · have e0 := V.at (zdq hd 0 rfl) rfl
        have e3 := V.at (zdq hd 3 rfl) rfl
        have e15 := V.at (zdq hd 15 rfl) rfl
        have e16 := V.at (zdq hd 16 rfl) rfl
        go_wp2_with (go_at_call 174; refine (HK1.out _).mono ?_; rintro e wy ⟨rfl, hy⟩)
        exact hK _ (.agg (zb 64 (dvA p m d F G))) _ (by simp only [Act.put, pA, pB, pC, e0, e3, e15, e16]) ⟨hY.trans (hy.mono hY.size), (fun h => (h18 h).below hy), (fun h => (h19 h).below hy), V.step 17 rfl⟩
      · go_wp2_with fail
        rw [← z64]
        exact hK _ (.pointer (some ⟨W5.heap.size, 0, none⟩)) _ (by simp only [Act.put, pA, pB, pC ]) ⟨hY.alloc hY.size _, (fun _ => (PF.new W5 64 24 _ hY.size).af), (fun h => absurd rfl (hn 19 _ rfl h ⟨18, .data⟩ (by simp) rfl)), V.skip 18 rfl⟩
      · have e17 := V.at (zdq hd 17 rfl) rfl
        obtain ⟨gz, b, ea, hN, hk⟩ := (h18 (zdq hd 18 rfl)).out
        refine zsb 24 _ _ rfl b 64 (dvA p m d F G) ea e17 24 gz hk Try.size24 ?_
        exact hK _ undef _ rfl ⟨zr hY hN _, (fun h => (h18 h).row hk), (fun _ => by rw [show updV v 19 undef 18 = v 18 from rfl, ea]; exact PF.row hk hN _), V.skip 19 rfl⟩
    · intro L v W5 hL ⟨hY, h18, h19, V⟩
      obtain ⟨k5_18, e18, hNk5_18, hk5_18⟩ := (h19 (hL 19 (by decide))).out
      have e0 := V.at (hL 0 (by decide)) rfl
      have e1 := V.at (hL 1 (by decide)) rfl
      have e2 := V.at (hL 2 (by decide)) rfl
      have e3 := V.at (hL 3 (by decide)) rfl
      have e4 := V.at (hL 4 (by decide)) rfl
      have e5 := V.at (hL 5 (by decide)) rfl
      have e6 := V.at (hL 6 (by decide)) rfl
      have e7 := V.at (hL 7 (by decide)) rfl
      have e8 := V.at (hL 8 (by decide)) rfl
      have e9 := V.at (hL 9 (by decide)) rfl
      have e10 := V.at (hL 10 (by decide)) rfl
      have e11 := V.at (hL 11 (by decide)) rfl
      have e12 := V.at (hL 12 (by decide)) rfl
      have e13 := V.at (hL 13 (by decide)) rfl
      have e14 := V.at (hL 14 (by decide)) rfl
      have e15 := V.at (hL 15 (by decide)) rfl
      have e16 := V.at (hL 16 (by decide)) rfl
      have e17 := V.at (hL 17 (by decide)) rfl
      clear hL h18 h19 V
      replace B0 := B0.zw hY
      replace B1 := B1.zw hY
      replace B2 := B2.zw hY
      replace B3 := B3.zw hY
      replace B4 := B4.zw hY
      replace B5 := B5.zw hY
      replace hb := hb.trans (hY.mono hb.size)
      clear hY
      simp only [Exit.then, e18, e0, e1, e2, e3, e4, e5, e6, e7, e8, e9, e10, e11, e12, e13, e14, e15, e16, e17]
      clear e18 e0 e1 e2 e3 e4 e5 e6 e7 e8 e9 e10 e11 e12 e13 e14 e15 e16 e17
      have B6 := hk5_18
      clear hk5_18
      have zk5_18_0 : w.heap.size < k5_18 := by omega
      have zk5_18_1 : w.heap.size + 1 < k5_18 := by omega
      have zk5_18_2 : w.heap.size + 1 + 1 < k5_18 := by omega
      have zk5_18_3 : w.heap.size + 1 + 1 + 1 < k5_18 := by omega
      have zk5_18_4 : w.heap.size + 1 + 1 + 1 + 1 < k5_18 := by omega
      have zk5_18_5 : N1 < k5_18 := by omega
      clear lt_B0 lt_B1 lt_B2 lt_B3 lt_B4 lt_B5
      go_upto_region 6 with (fail)
      have lt_B0 := B0.lt
      have lt_B1 := B1.lt
      have lt_B2 := B2.lt
      have lt_B3 := B3.lt
      have lt_B4 := B4.lt
      have lt_B5 := B5.lt
      have lt_B6 := B6.lt
      go_upto_region 7 with (first | rw [← z64] | (refine zla (.tmp 13) B6 Try.underlying24 Try.size24 ?_) | (refine zss rfl 24 (.tmp 48) (.tmp 47) rfl _ (q) (dvA p m d F G) rfl rfl 26 _ (B5) (by omega) Try.size24 ?_; try simp only [Act.put]))
      obtain ⟨W6, hwo, hzQ⟩ : ∃ v : World, v = (W5.setRow (N1) (zb 512 (fl 64 (updR Q q (dvA p m d F G))))) ∧ Blk v (w.heap.size) 64 24 (m) ∧ Blk v (w.heap.size + 1) 512 26 (fl 64 F) ∧ Blk v (w.heap.size + 1 + 1) 512 26 (fl 64 G) ∧ Blk v (w.heap.size + 1 + 1 + 1) 512 26 (fl 64 (fun _ _ => 0)) ∧ Blk v (w.heap.size + 1 + 1 + 1 + 1) 512 26 (fl 64 (fun _ _ => 0)) ∧ Blk v (N1) 512 26 (fl 64 (updR Q q (dvA p m d F G))) ∧ Blk v (k5_18) 64 24 (dvA p m d F G) ∧ Below w.heap.size w v := ⟨_, rfl, (B0.rowOther (by omega)), (B1.rowOther (by omega)), (B2.rowOther (by omega)), (B3.rowOther (by omega)), (B4.rowOther (by omega)), (B5.row (fl 64 (updR Q q (dvA p m d F G)))), (B6.rowOther (by omega)), (zr hb (by omega) _)⟩
      rw [← hwo]
      clear hwo B0 B1 B2 B3 B4 B5 B6 hb
      obtain ⟨B0, B1, B2, B3, B4, B5, B6, hb⟩ := hzQ
      try simp only [Act.put, pA, pB, pC]
      have lt_B0 : (w.heap.size) < W6.heap.size := B0.lt
      have lt_B1 : (w.heap.size + 1) < W6.heap.size := B1.lt
      have lt_B2 : (w.heap.size + 1 + 1) < W6.heap.size := B2.lt
      have lt_B3 : (w.heap.size + 1 + 1 + 1) < W6.heap.size := B3.lt
      have lt_B4 : (w.heap.size + 1 + 1 + 1 + 1) < W6.heap.size := B4.lt
      have lt_B5 : (N1) < W6.heap.size := B5.lt
      have lt_B6 : (k5_18) < W6.heap.size := B6.lt
      refine zq Try.mixed (by kernel_rfl) (by kernel_rfl) (fun v => by (simp only [frL, Act.put, pA, pB, pC, Nat.reduceAdd, Nat.zero_add]; exact rfl))
       (fun L v W7 => Below W6.heap.size W6 W7 ∧ (L 12 = true → AF (v 12) W7 W6.heap.size 512 26) ∧ (L 13 = true → PF (v 12) W7 W6.heap.size 512 26 (fl 64 (tmP p m d (dvT p m d F G) G))) ∧ VF L v [some (.int .i64 (p : Int)), some (.agg (zb 64 (m))), some (.agg (zb 64 (dvA p m d F G))), some (.int .i64 (n : Int)), some (.int .i64 (k : Int)), some (.int .i64 (q : Int)), some (.agg (zb 512 (fl 64 (dvT p m d F G)))), some (.agg (zb 512 (fl 64 G))), some (.tuple #[(.agg (zb 512 (fl 64 (tmP p m d (dvT p m d F G) G)))), (.bool true)]), some (.tuple #[(.agg (zb 512 (fl 64 (tmP p m d (dvT p m d F G) G)))), (.bool true)]), some (.agg (zb 512 (fl 64 (tmP p m d (dvT p m d F G) G)))), some (.bool true), none, none, some (.bool true)]) ?_ ?_ ?_
      · intro v hv0
        exact ⟨(Below.refl _ W6).drew, (fun h => by cases h), (fun h => by cases h), VF.start⟩
      · refine (.cons rfl ?_ (.cons rfl ?_ (.cons rfl ?_ (.cons rfl ?_ (.cons rfl ?_ (.cons rfl ?_ (.cons rfl ?_ (.cons rfl ?_ (.cons rfl ?_ (.cons rfl ?_ (.cons rfl ?_ (.cons rfl ?_ (.cons rfl ?_ (.cons rfl ?_ (.cons rfl ?_ (.nil _))))))))))))))))
        all_goals intro L v W7 hd hn ⟨hY, h12, h13, V⟩ K hK
        · go_wp2_with fail
          exact hK _ (.int .i64 (p : Int)) _ (by simp only [Act.put, pA, pB, pC ]) ⟨hY, h12, h13, V.step 0 rfl⟩
        · refine zlc (B0.zw hY) Try.underlying24 Try.size24 ?_
          exact hK _ _ _ rfl ⟨hY, h12, h13, V.step 1 rfl⟩
        · refine zlc (B6.zw hY) Try.underlying24 Try.size24 ?_
          exact hK _ _ _ rfl ⟨hY, h12, h13, V.step 2 rfl⟩
        · go_wp2_with fail
          exact hK _ (.int .i64 (n : Int)) _ (by simp only [Act.put, pA, pB, pC ]) ⟨hY, h12, h13, V.step 3 rfl⟩
        · go_wp2_with fail
          exact hK _ (.int .i64 (k : Int)) _ (by simp only [Act.put, pA, pB, pC ]) ⟨hY, h12, h13, V.step 4 rfl⟩
        · have e3 := V.at (zdq hd 3 rfl) rfl
          have e4 := V.at (zdq hd 4 rfl) rfl
          go_wp2_with fail
          exact hK _ (.int .i64 (q : Int)) _ (by simp only [Act.put, pA, pB, pC, e3, e4]) ⟨hY, h12, h13, V.step 5 rfl⟩
        · have e2 := V.at (zdq hd 2 rfl) rfl
          have e5 := V.at (zdq hd 5 rfl) rfl
          go_wp2_with (go_at_call 182; refine (HK2.out _).mono ?_; rintro e wy ⟨rfl, hy⟩)
          exact hK _ (.agg (zb 512 (fl 64 (dvT p m d F G)))) _ (by simp only [Act.put, pA, pB, pC, e2, e5]) ⟨hY.trans (hy.mono hY.size), (fun h => (h12 h).below hy), (fun h => (h13 h).below hy), V.step 6 rfl⟩
        · refine zlc (B2.zw hY) Try.underlying26 Try.size26 ?_
          exact hK _ _ _ rfl ⟨hY, h12, h13, V.step 7 rfl⟩
        · have e0 := V.at (zdq hd 0 rfl) rfl
          have e1 := V.at (zdq hd 1 rfl) rfl
          have e6 := V.at (zdq hd 6 rfl) rfl
          have e7 := V.at (zdq hd 7 rfl) rfl
          go_wp2_with (go_at_call 84; refine (HK3.out _).mono ?_; rintro e wy ⟨rfl, hy⟩)
          exact hK _ (.tuple #[(.agg (zb 512 (fl 64 (tmP p m d (dvT p m d F G) G)))), (.bool true)]) _ (by simp only [Act.put, pA, pB, pC, e0, e1, e6, e7]) ⟨hY.trans (hy.mono hY.size), (fun h => (h12 h).below hy), (fun h => (h13 h).below hy), V.step 8 rfl⟩
        · have e8 := V.at (zdq hd 8 rfl) rfl
          go_wp2_with fail
          exact hK _ (.tuple #[(.agg (zb 512 (fl 64 (tmP p m d (dvT p m d F G) G)))), (.bool true)]) _ (by simp only [Act.put, pA, pB, pC, e8]) ⟨hY, h12, h13, V.step 9 rfl⟩
        · have e9 := V.at (zdq hd 9 rfl) rfl
          go_wp2_with fail
          exact hK _ (.agg (zb 512 (fl 64 (tmP p m d (dvT p m d F G) G)))) _ (by simp only [Act.put, pA, pB, pC, e9]) ⟨hY, h12, h13, V.step 10 rfl⟩
        · have e9 := V.at (zdq hd 9 rfl) rfl
          go_wp2_with fail
          exact hK _ (.bool true) _ (by simp only [Act.put, pA, pB, pC, e9]) ⟨hY, h12, h13, V.step 11 rfl⟩
        · go_wp2_with fail
          rw [← zero512]
          exact hK _ (.pointer (some ⟨W7.heap.size, 0, none⟩)) _ (by simp only [Act.put, pA, pB, pC ]) ⟨hY.alloc hY.size _, (fun _ => (PF.new W7 512 26 _ hY.size).af), (fun h => absurd rfl (hn 13 _ rfl h ⟨12, .data⟩ (by simp) rfl)), V.skip 12 rfl⟩
        · have e10 := V.at (zdq hd 10 rfl) rfl
          obtain ⟨gz, b, ea, hN, hk⟩ := (h12 (zdq hd 12 rfl)).out
          refine zsb 26 _ _ rfl b 512 (fl 64 (tmP p m d (dvT p m d F G) G)) ea e10 26 gz hk Try.size26 ?_
          exact hK _ undef _ rfl ⟨zr hY hN _, (fun h => (h12 h).row hk), (fun _ => by rw [show updV v 13 undef 12 = v 12 from rfl, ea]; exact PF.row hk hN _), V.skip 13 rfl⟩
        · have e11 := V.at (zdq hd 11 rfl) rfl
          go_wp2_with fail
          exact hK _ (.bool true) _ (by simp only [Act.put, pA, pB, pC, e11]) ⟨hY, h12, h13, V.step 14 rfl⟩
      · intro L v W7 hL ⟨hY, h12, h13, V⟩
        obtain ⟨k7_12, e12, hNk7_12, hk7_12⟩ := (h13 (hL 13 (by decide))).out
        have e0 := V.at (hL 0 (by decide)) rfl
        have e1 := V.at (hL 1 (by decide)) rfl
        have e2 := V.at (hL 2 (by decide)) rfl
        have e3 := V.at (hL 3 (by decide)) rfl
        have e4 := V.at (hL 4 (by decide)) rfl
        have e5 := V.at (hL 5 (by decide)) rfl
        have e6 := V.at (hL 6 (by decide)) rfl
        have e7 := V.at (hL 7 (by decide)) rfl
        have e8 := V.at (hL 8 (by decide)) rfl
        have e9 := V.at (hL 9 (by decide)) rfl
        have e10 := V.at (hL 10 (by decide)) rfl
        have e11 := V.at (hL 11 (by decide)) rfl
        have e14 := V.at (hL 14 (by decide)) rfl
        clear hL h12 h13 V
        replace B0 := B0.zw hY
        replace B1 := B1.zw hY
        replace B2 := B2.zw hY
        replace B3 := B3.zw hY
        replace B4 := B4.zw hY
        replace B5 := B5.zw hY
        replace B6 := B6.zw hY
        replace hb := hb.trans (hY.mono hb.size)
        clear hY
        simp only [Exit.then, e12, e0, e1, e2, e3, e4, e5, e6, e7, e8, e9, e10, e11, e14]
        clear e12 e0 e1 e2 e3 e4 e5 e6 e7 e8 e9 e10 e11 e14
        have B7 := hk7_12
        clear hk7_12
        have zk7_12_0 : w.heap.size < k7_12 := by omega
        have zk7_12_1 : w.heap.size + 1 < k7_12 := by omega
        have zk7_12_2 : w.heap.size + 1 + 1 < k7_12 := by omega
        have zk7_12_3 : w.heap.size + 1 + 1 + 1 < k7_12 := by omega
        have zk7_12_4 : w.heap.size + 1 + 1 + 1 + 1 < k7_12 := by omega
        have zk7_12_5 : N1 < k7_12 := by omega
        have zk7_12_6 : k5_18 < k7_12 := by omega
        clear lt_B0 lt_B1 lt_B2 lt_B3 lt_B4 lt_B5 lt_B6
        go_upto_region 8 with (fail)
        have lt_B0 := B0.lt
        have lt_B1 := B1.lt
        have lt_B2 := B2.lt
        have lt_B3 := B3.lt
        have lt_B4 := B4.lt
        have lt_B5 := B5.lt
        have lt_B6 := B6.lt
        have lt_B7 := B7.lt
        go_upto_region 4 with (first | rw [← z64] | rw [← zero512] | (refine zla (.tmp 6) B1 Try.underlying26 Try.size26 ?_) | (refine zla (.tmp 14) B7 Try.underlying26 Try.size26 ?_) | (go_at_call 183; refine (HK4.out _).mono ?_; rintro e W8 ⟨rfl, hW8⟩; replace B0 := B0.zw hW8; replace B1 := B1.zw hW8; replace B2 := B2.zw hW8; replace B3 := B3.zw hW8; replace B4 := B4.zw hW8; replace B5 := B5.zw hW8; replace B6 := B6.zw hW8; replace B7 := B7.zw hW8; replace hb := (hb).trans (hW8.mono (hb).size)) | (refine zsr (.tmp 6) (.tmp 64) (fl 64 (skA p F (tmP p m d (dvT p m d F G) G) (-1))) B1 Try.size26 ?_; try simp only [Act.put]))
        obtain ⟨W9, hwo, hzQ⟩ : ∃ v : World, v = (W8.setRow (w.heap.size + 1) (zb 512 (fl 64 (skA p F (tmP p m d (dvT p m d F G) G) (-1))))) ∧ Blk v (w.heap.size) 64 24 (m) ∧ Blk v (w.heap.size + 1) 512 26 (fl 64 (skA p F (tmP p m d (dvT p m d F G) G) (-1))) ∧ Blk v (w.heap.size + 1 + 1) 512 26 (fl 64 G) ∧ Blk v (w.heap.size + 1 + 1 + 1) 512 26 (fl 64 (fun _ _ => 0)) ∧ Blk v (w.heap.size + 1 + 1 + 1 + 1) 512 26 (fl 64 (fun _ _ => 0)) ∧ Blk v (N1) 512 26 (fl 64 (updR Q q (dvA p m d F G))) ∧ Blk v (k5_18) 64 24 (dvA p m d F G) ∧ Blk v (k7_12) 512 26 (fl 64 (tmP p m d (dvT p m d F G) G)) ∧ Below w.heap.size w v := ⟨_, rfl, (B0.rowOther (by omega)), (B1.row (fl 64 (skA p F (tmP p m d (dvT p m d F G) G) (-1)))), (B2.rowOther (by omega)), (B3.rowOther (by omega)), (B4.rowOther (by omega)), (B5.rowOther (by omega)), (B6.rowOther (by omega)), (B7.rowOther (by omega)), (zr hb (by omega) _)⟩
        rw [← hwo]
        clear hwo B0 B1 B2 B3 B4 B5 B6 B7 hb
        obtain ⟨B0, B1, B2, B3, B4, B5, B6, B7, hb⟩ := hzQ
        try simp only [Act.put, pA, pB, pC]
        go_wp2_with (first | (refine zla (.tmp 6) B1 Try.underlying26 Try.size26 ?_) | (go_at_call 80; refine (l03Deg_any (skA p F (tmP p m d (dvT p m d F G) G) (-1)) _).mono ?_; rintro e W10 ⟨rfl, hW10⟩; replace B0 := B0.zw hW10; replace B1 := B1.zw hW10; replace B2 := B2.zw hW10; replace B3 := B3.zw hW10; replace B4 := B4.zw hW10; replace B5 := B5.zw hW10; replace B6 := B6.zw hW10; replace B7 := B7.zw hW10; replace hb := (hb).trans (hW10.mono (hb).size)))
        go_roundw
        case rel => exact ⟨fu, _, _, rfl, hI2, hb, B0, B1, B2, B3, B4, B5⟩
        case measure => have h1 : skD (skA p F (tmP p m d (dvT p m d F G) G) (-1)) < (n : Int) := hM.out; have h2 : (-1 : Int) ≤ skD (skA p F (tmP p m d (dvT p m d F G) G) (-1)) := HM0.out; simp only [intOf]; omega
  · have hgeI : ¬ (skD F ≥ (k : Int)) := hge
    have HV := Lib.hid (show (Q, F) = gdU (fun F => dvA p m d F G) (fun F => dvF p m d F G) (skD G) 8 (fun _ _ => 0) F0 by rw [← hI.out.1, gdU_stop (by have := HK.out; omega)])
    have HV1 := Lib.hid (show zb 512 (fl 64 Q) = zb 512 (fl 64 (dq p m d F0 G).1) by rw [← HE.out.1, ← HV.out])
    have HV2 := Lib.hid (show F = (dq p m d F0 G).2 by rw [← HE.out.2, ← HV.out])
    go_upto_region 9 with (fail)
    have lt_B0 : (w.heap.size) < wr.heap.size := B0.lt
    have lt_B1 : (w.heap.size + 1) < wr.heap.size := B1.lt
    have lt_B2 : (w.heap.size + 1 + 1) < wr.heap.size := B2.lt
    have lt_B3 : (w.heap.size + 1 + 1 + 1) < wr.heap.size := B3.lt
    have lt_B4 : (w.heap.size + 1 + 1 + 1 + 1) < wr.heap.size := B4.lt
    have lt_B5 : (N1) < wr.heap.size := B5.lt
    have hbase : w.heap.size ≤ wr.heap.size := hb.size
    refine zq Try.mixed (by kernel_rfl) (by kernel_rfl) (fun v => by (simp only [frL, Act.put, pA, pB, pC, Nat.reduceAdd, Nat.zero_add]; exact rfl))
     (fun L v W5 => Below w.heap.size w W5 ∧ Kx [w.heap.size + 1 + 1 + 1, w.heap.size + 1 + 1 + 1 + 1] wr W5 ∧ (∃ g, Blk W5 (w.heap.size + 1 + 1 + 1) 512 26 (g)) ∧ (L 2 = false → Blk W5 (w.heap.size + 1 + 1 + 1) 512 26 (fl 64 (fun _ _ => 0))) ∧ (L 2 = true → Blk W5 (w.heap.size + 1 + 1 + 1) 512 26 (fl 64 Q)) ∧ (∃ g, Blk W5 (w.heap.size + 1 + 1 + 1 + 1) 512 26 (g)) ∧ (L 3 = false → Blk W5 (w.heap.size + 1 + 1 + 1 + 1) 512 26 (fl 64 (fun _ _ => 0))) ∧ (L 3 = true → Blk W5 (w.heap.size + 1 + 1 + 1 + 1) 512 26 (fl 64 F)) ∧ VF L v [some (.agg (zb 512 (fl 64 Q))), some (.agg (zb 512 (fl 64 F))), none, none]) ?_ ?_ ?_
    · intro v hv0
      exact ⟨hb.drew, Kx.start _ _, ⟨_, B3.drew⟩, (fun _ => B3.drew), (fun h => by cases h), ⟨_, B4.drew⟩, (fun _ => B4.drew), (fun h => by cases h), VF.start⟩
    · refine (.cons rfl ?_ (.cons rfl ?_ (.cons rfl ?_ (.cons rfl ?_ (.nil _)))))
      all_goals intro L v W5 hd hn ⟨hB, hX, x3, q3, n3, x4, q4, n4, V⟩ K hK
      · refine wp_load_any 26 _ rfl _ rfl 512 26 _ (B5.kx hX (by simp <;> omega)) _ Try.underlying26 rfl Try.size26 ?_
        exact hK _ _ _ rfl ⟨hB, hX, x3, q3, n3, x4, q4, n4, V.step 0 rfl⟩
      · refine wp_load_any 26 _ rfl _ rfl 512 26 _ (B1.kx hX (by simp <;> omega)) _ Try.underlying26 rfl Try.size26 ?_
        exact hK _ _ _ rfl ⟨hB, hX, x3, q3, n3, x4, q4, n4, V.step 1 rfl⟩
      · have e0 := V.at (zdq hd 0 rfl) rfl
        obtain ⟨gz, hk⟩ := x3
        refine zsb 26 _ _ rfl _ 512 (fl 64 Q) rfl e0 26 gz hk Try.size26 ?_
        exact hK _ undef _ rfl ⟨zr hB (by omega) _, hX.row (by simp) _, ⟨_, hk.row _⟩, (fun h => absurd h (by simp [setL])), (fun _ => hk.row _), (let ⟨g, h⟩ := x4; ⟨g, (h).rowOther (by omega)⟩), (fun h => (q4 h).rowOther (by omega)), (fun h => (n4 h).rowOther (by omega)), V.skip 2 rfl⟩
      · have e1 := V.at (zdq hd 1 rfl) rfl
        obtain ⟨gz, hk⟩ := x4
        refine zsb 26 _ _ rfl _ 512 (fl 64 F) rfl e1 26 gz hk Try.size26 ?_
        exact hK _ undef _ rfl ⟨zr hB (by omega) _, hX.row (by simp) _, (let ⟨g, h⟩ := x3; ⟨g, (h).rowOther (by omega)⟩), (fun h => (q3 h).rowOther (by omega)), (fun h => (n3 h).rowOther (by omega)), ⟨_, hk.row _⟩, (fun h => absurd h (by simp [setL])), (fun _ => hk.row _), V.skip 3 rfl⟩
    · intro L v W5 hL ⟨hB, hX, x3, q3, n3, x4, q4, n4, V⟩
      have r3 := n3 (hL 2 (by decide))
      have r4 := n4 (hL 3 (by decide))
      have e0 := V.at (hL 0 (by decide)) rfl
      have e1 := V.at (hL 1 (by decide)) rfl
      clear hL x3 q3 n3 x4 q4 n4 V
      replace B0 := B0.kx hX (by simp <;> omega)
      replace B1 := B1.kx hX (by simp <;> omega)
      replace B2 := B2.kx hX (by simp <;> omega)
      replace B5 := B5.kx hX (by simp <;> omega)
      clear hX
      simp only [Exit.then, e0, e1]
      clear e0 e1
      replace B3 := r3
      clear r3
      replace B4 := r4
      clear r4
      replace hb := hB
      clear hB
      clear hbase lt_B0 lt_B1 lt_B2 lt_B3 lt_B4 lt_B5
      go_wp2_with fail
      refine bodyPost_ret (results_any2 rfl _ _ _ 512 _ _ _ 512 _ _ rfl B3 _ Try.underlying26 rfl Try.size26 rfl B4 _ Try.underlying26 rfl Try.size26) rfl ⟨by rw [HV1.out, ← HV2.out], hb⟩
end Go.Proofs.Ytdlojnmggogbaaa
end
section
namespace Go.Proofs.Ytdlojnmggogbaaa
open Go Go.RowKit
set_option linter.unusedVariables false
set_option linter.unusedSimpArgs false
attribute [local irreducible] deg addK okA flV skA skD
noncomputable def drV (p : Int) (m : Nat → Nat) (F G : Nat → Nat → Nat) : ((Nat → Nat → Nat) × (Nat → Nat → Nat)) × Int := if ckS p m [F, G] = 0 then (if skD G < 0 then ((fun _ _ => 0, fun _ _ => 0), 5) else (dq p.toNat m (deg m).toNat F G, 0)) else ((fun _ _ => 0, fun _ _ => 0), 1)
theorem drV_0 {n d : Nat} {m : Nat → Nat} {F G : Nat → Nat → Nat} (h : ckS (n : Int) m [F, G] = 0) (hd : deg m = (d : Int)) (h2 : ¬ skD G < 0) : drV (n : Int) m F G = (dq n m d F G, 0) := by unfold drV; rw [if_pos h, if_neg h2, hd]; rfl
theorem drV_5 {p : Int} {m : Nat → Nat} {F G : Nat → Nat → Nat} (h : ckS p m [F, G] = 0) (h2 : skD G < 0) : drV p m F G = ((fun _ _ => 0, fun _ _ => 0), 5) := by unfold drV; rw [if_pos h, if_pos h2]
theorem drV_1 {p : Int} {m : Nat → Nat} {F G : Nat → Nat → Nat} (h : ckS p m [F, G] = 1) : drV p m F G = ((fun _ _ => 0, fun _ _ => 0), 1) := if_neg (by omega)
attribute [irreducible] drV
set_option maxRecDepth 100000 in
set_option maxHeartbeats 1600000 in
theorem spec_DivideRight_any (p : Int) (m : Nat → Nat) (F G : Nat → Nat → Nat) (hm : byte m) (hF : ∀ i, byte (F i)) (hG : ∀ i, byte (G i)) (w : World) :
 Calls Try.prog 28 #[.int .i64 p, .agg (zb 64 m), .agg (zb 512 (fl 64 F)), .agg (zb 512 (fl 64 G))] w fun e w' => e = .returned (.tuple #[.agg (zb 512 (fl 64 (drV p m F G).1.1)), .agg (zb 512 (fl 64 (drV p m F G).1.2)), .int .i64 (drV p m F G).2]) ∧ Below w.heap.size w w' := by
 go_enter Try.func28, Try.ntmps28
 go_upto_region 1 with (fail)
 rw [← zero512]
 obtain ⟨W1, hwo⟩ : ∃ v : World, v = (((((w.alloc (.cells (zb 64 (m)) 24)).alloc (.cells (zb 512 (fl 64 F)) 26)).alloc (.cells (zb 512 (fl 64 G)) 26)).alloc (.cells (zb 512 (fl 64 (fun _ _ => 0))) 26)).alloc (.cells (zb 512 (fl 64 (fun _ _ => 0))) 26)) := ⟨_, rfl⟩
 have B0 : Blk W1 (w.heap.size) 64 24 (m) := by subst hwo; have := (((((Blk.new w 64 24 (m)).alloc (.cells (zb 512 (fl 64 F)) 26)).alloc (.cells (zb 512 (fl 64 G)) 26)).alloc (.cells (zb 512 (fl 64 (fun _ _ => 0))) 26)).alloc (.cells (zb 512 (fl 64 (fun _ _ => 0))) 26)); simpa using this
 have B1 : Blk W1 (w.heap.size + 1) 512 26 (fl 64 F) := by subst hwo; have := ((((Blk.new (w.alloc (.cells (zb 64 (m)) 24)) 512 26 (fl 64 F)).alloc (.cells (zb 512 (fl 64 G)) 26)).alloc (.cells (zb 512 (fl 64 (fun _ _ => 0))) 26)).alloc (.cells (zb 512 (fl 64 (fun _ _ => 0))) 26)); simpa using this
 have B2 : Blk W1 (w.heap.size + 1 + 1) 512 26 (fl 64 G) := by subst hwo; have := (((Blk.new ((w.alloc (.cells (zb 64 (m)) 24)).alloc (.cells (zb 512 (fl 64 F)) 26)) 512 26 (fl 64 G)).alloc (.cells (zb 512 (fl 64 (fun _ _ => 0))) 26)).alloc (.cells (zb 512 (fl 64 (fun _ _ => 0))) 26)); simpa using this
 have B3 : Blk W1 (w.heap.size + 1 + 1 + 1) 512 26 (fl 64 (fun _ _ => 0)) := by subst hwo; have := ((Blk.new (((w.alloc (.cells (zb 64 (m)) 24)).alloc (.cells (zb 512 (fl 64 F)) 26)).alloc (.cells (zb 512 (fl 64 G)) 26)) 512 26 (fl 64 (fun _ _ => 0))).alloc (.cells (zb 512 (fl 64 (fun _ _ => 0))) 26)); simpa using this
 have B4 : Blk W1 (w.heap.size + 1 + 1 + 1 + 1) 512 26 (fl 64 (fun _ _ => 0)) := by subst hwo; have := (Blk.new ((((w.alloc (.cells (zb 64 (m)) 24)).alloc (.cells (zb 512 (fl 64 F)) 26)).alloc (.cells (zb 512 (fl 64 G)) 26)).alloc (.cells (zb 512 (fl 64 (fun _ _ => 0))) 26)) 512 26 (fl 64 (fun _ _ => 0))); simpa using this
 have hb : Below w.heap.size w W1 := by subst hwo; exact ((((((Below.refl _ _).alloc (Nat.le_refl _) _).alloc (by simp) _).alloc (by simp; omega) _).alloc (by simp; omega) _).alloc (by simp; omega) _)
 rw [← hwo]
 clear hwo
 rcases ckS_two p m [F, G] with hc | hc
 · by_cases hz : skD G < 0
   · skip
     have HV := Lib.hid (drV_5 hc hz)
     have HC := Lib.hid (cdV_5 hc hz)
     go_upto_region 3 with (first | (refine zla (.tmp 5) B0 Try.underlying24 Try.size24 ?_) | (refine zla (.tmp 6) B1 Try.underlying26 Try.size26 ?_) | (refine zla (.tmp 7) B2 Try.underlying26 Try.size26 ?_) | (go_at_call 88; refine (l03Divided_any p m F G hm hF hG _).mono ?_; rintro e W2 ⟨rfl, hW2⟩; replace B0 := B0.zw hW2; replace B1 := B1.zw hW2; replace B2 := B2.zw hW2; replace B3 := B3.zw hW2; replace B4 := B4.zw hW2; replace hb := (hb).trans (hW2.mono (hb).size); rw [HC.out]))
     have lt_B0 := B0.lt
     have lt_B1 := B1.lt
     have lt_B2 := B2.lt
     have lt_B3 := B3.lt
     have lt_B4 := B4.lt
     go_wp2_with (first | rw [← z64] | rw [← zero512] | (refine zsr (.tmp 8) (.tmp 21) (fl 64 (fun _ _ => 0)) B3 Try.size26 ?_; try simp only [Act.put]) | (refine wpList_store_blk rfl 26 (.tmp 9) (.tmp 22) rfl _ 512 (fl 64 (fun _ _ => 0)) rfl rfl 26 _ ((B4.rowOther (by omega))) Try.size26 ?_; try simp only [Act.put]; go_wp2_with fail))
     obtain ⟨W3, hwo, hzQ⟩ : ∃ v : World, v = ((W2.setRow (w.heap.size + 1 + 1 + 1) (zb 512 (fl 64 (fun _ _ => 0)))).setRow (w.heap.size + 1 + 1 + 1 + 1) (zb 512 (fl 64 (fun _ _ => 0)))) ∧ Blk v (w.heap.size) 64 24 (m) ∧ Blk v (w.heap.size + 1) 512 26 (fl 64 F) ∧ Blk v (w.heap.size + 1 + 1) 512 26 (fl 64 G) ∧ Blk v (w.heap.size + 1 + 1 + 1) 512 26 (fl 64 (fun _ _ => 0)) ∧ Blk v (w.heap.size + 1 + 1 + 1 + 1) 512 26 (fl 64 (fun _ _ => 0)) ∧ Below w.heap.size w v := ⟨_, rfl, ((B0.rowOther (by omega)).rowOther (by omega)), ((B1.rowOther (by omega)).rowOther (by omega)), ((B2.rowOther (by omega)).rowOther (by omega)), ((B3.row (fl 64 (fun _ _ => 0))).rowOther (by omega)), ((B4.rowOther (by omega)).row (fl 64 (fun _ _ => 0))), (zr (zr hb (by omega) _) (by omega) _)⟩
     rw [← hwo]
     clear hwo B0 B1 B2 B3 B4 hb
     obtain ⟨B0, B1, B2, B3, B4, hb⟩ := hzQ
     try simp only [Act.put, pA, pB, pC]
     refine bodyPost_ret (results_any2t rfl _ _ _ 512 _ _ _ 512 _ _ rfl B3 _ Try.underlying26 rfl Try.size26 rfl B4 _ Try.underlying26 rfl Try.size26) rfl ⟨by first | (rw [HV.out]; rfl) | rw [HV.out], hb⟩
   · obtain ⟨n, rfl, hpr, lm, ⟨d, hmon, hd1, hd4⟩, hl⟩ := ckS_fld hc
     have hd := hmon.1
     have lF : ∀ i, i < 8 → ∀ j, j < 64 → F i j < n := fun i hi => (hl F (by simp) i hi).1
     have rF : rsk n m F := ckS_rsk hl (by simp)
     have rG : rsk n m G := ckS_rsk hl (by simp)
     have hirr := ckS_irr hc hmon
     obtain ⟨b1, b2⟩ := zsd G
     have HV := Lib.hid (drV_0 hc hd hz)
     have HC := Lib.hid (cdV_0 hc hz)
     have HDV := Lib.hid (fun W => l03Right_any n m F G W hpr lm d hmon hirr (by omega) rF rG (by omega))
     clear hc hl lF rF rG hirr hmon hz b1 b2 lm hpr hd
     go_upto_region 4 with (first | (refine zla (.tmp 5) B0 Try.underlying24 Try.size24 ?_) | (refine zla (.tmp 6) B1 Try.underlying26 Try.size26 ?_) | (refine zla (.tmp 7) B2 Try.underlying26 Try.size26 ?_) | (go_at_call 88; refine (l03Divided_any (n : Int) m F G hm hF hG _).mono ?_; rintro e W2 ⟨rfl, hW2⟩; replace B0 := B0.zw hW2; replace B1 := B1.zw hW2; replace B2 := B2.zw hW2; replace B3 := B3.zw hW2; replace B4 := B4.zw hW2; replace hb := (hb).trans (hW2.mono (hb).size); rw [HC.out]))
     have lt_B0 := B0.lt
     have lt_B1 := B1.lt
     have lt_B2 := B2.lt
     have lt_B3 := B3.lt
     have lt_B4 := B4.lt
     go_upto_region 5 with (first | rw [← z64] | rw [← zero512] | (refine zla (.tmp 5) B0 Try.underlying24 Try.size24 ?_) | (refine zla (.tmp 6) B1 Try.underlying26 Try.size26 ?_) | (refine zla (.tmp 7) B2 Try.underlying26 Try.size26 ?_) | (go_at_call 89; refine (HDV.out _).mono ?_; rintro e W3 ⟨rfl, hW3⟩; replace B0 := B0.zw hW3; replace B1 := B1.zw hW3; replace B2 := B2.zw hW3; replace B3 := B3.zw hW3; replace B4 := B4.zw hW3; replace hb := (hb).trans (hW3.mono (hb).size)) | (refine wpList_store_blk rfl 26 (.tmp 12) (.tmp 30) rfl _ 512 (fl 64 (dq n m d F G).1) rfl rfl 26 _ (((Blk.new W3 512 26 (fl 64 (fun _ _ => 0))).alloc (.cells (zb 512 (fl 64 (fun _ _ => 0))) 26))) Try.size26 ?_; try simp only [Act.put]) | (refine wpList_store_blk rfl 26 (.tmp 13) (.tmp 31) rfl _ 512 (fl 64 (dq n m d F G).2) rfl rfl 26 _ (((show Blk ((W3.alloc (.cells (zb 512 (fl 64 (fun _ _ => 0))) 26)).alloc (.cells (zb 512 (fl 64 (fun _ _ => 0))) 26)) (W3.heap.size + 1) 512 26 (fl 64 (fun _ _ => 0)) by have := Blk.new (W3.alloc (.cells (zb 512 (fl 64 (fun _ _ => 0))) 26)) 512 26 (fl 64 (fun _ _ => 0)); simpa using this).rowOther (by omega))) Try.size26 ?_; try simp only [Act.put]))
     have lt_B0 := B0.lt
     have lt_B1 := B1.lt
     have lt_B2 := B2.lt
     have lt_B3 := B3.lt
     have lt_B4 := B4.lt
     have lhb := hb.size
     obtain ⟨W4, hwo, hzQ⟩ : ∃ v : World, v = ((((W3.alloc (.cells (zb 512 (fl 64 (fun _ _ => 0))) 26)).alloc (.cells (zb 512 (fl 64 (fun _ _ => 0))) 26)).setRow (W3.heap.size) (zb 512 (fl 64 (dq n m d F G).1))).setRow (W3.heap.size + 1) (zb 512 (fl 64 (dq n m d F G).2))) ∧ Blk v (w.heap.size) 64 24 (m) ∧ Blk v (w.heap.size + 1) 512 26 (fl 64 F) ∧ Blk v (w.heap.size + 1 + 1) 512 26 (fl 64 G) ∧ Blk v (w.heap.size + 1 + 1 + 1) 512 26 (fl 64 (fun _ _ => 0)) ∧ Blk v (w.heap.size + 1 + 1 + 1 + 1) 512 26 (fl 64 (fun _ _ => 0)) ∧ Blk v (W3.heap.size) 512 26 (fl 64 (dq n m d F G).1) ∧ Blk v (W3.heap.size + 1) 512 26 (fl 64 (dq n m d F G).2) ∧ Below w.heap.size w v := ⟨_, rfl, ((((B0.alloc (.cells (zb 512 (fl 64 (fun _ _ => 0))) 26)).alloc (.cells (zb 512 (fl 64 (fun _ _ => 0))) 26)).rowOther (by omega)).rowOther (by omega)), ((((B1.alloc (.cells (zb 512 (fl 64 (fun _ _ => 0))) 26)).alloc (.cells (zb 512 (fl 64 (fun _ _ => 0))) 26)).rowOther (by omega)).rowOther (by omega)), ((((B2.alloc (.cells (zb 512 (fl 64 (fun _ _ => 0))) 26)).alloc (.cells (zb 512 (fl 64 (fun _ _ => 0))) 26)).rowOther (by omega)).rowOther (by omega)), ((((B3.alloc (.cells (zb 512 (fl 64 (fun _ _ => 0))) 26)).alloc (.cells (zb 512 (fl 64 (fun _ _ => 0))) 26)).rowOther (by omega)).rowOther (by omega)), ((((B4.alloc (.cells (zb 512 (fl 64 (fun _ _ => 0))) 26)).alloc (.cells (zb 512 (fl 64 (fun _ _ => 0))) 26)).rowOther (by omega)).rowOther (by omega)), ((((Blk.new W3 512 26 (fl 64 (fun _ _ => 0))).alloc (.cells (zb 512 (fl 64 (fun _ _ => 0))) 26)).row (fl 64 (dq n m d F G).1)).rowOther (by omega)), (((show Blk ((W3.alloc (.cells (zb 512 (fl 64 (fun _ _ => 0))) 26)).alloc (.cells (zb 512 (fl 64 (fun _ _ => 0))) 26)) (W3.heap.size + 1) 512 26 (fl 64 (fun _ _ => 0)) by have := Blk.new (W3.alloc (.cells (zb 512 (fl 64 (fun _ _ => 0))) 26)) 512 26 (fl 64 (fun _ _ => 0)); simpa using this).rowOther (by omega)).row (fl 64 (dq n m d F G).2)), (zr (zr ((hb.alloc (by have := hb.size; simp; omega) (.cells (zb 512 (fl 64 (fun _ _ => 0))) 26)).alloc (by have := hb.size; simp; omega) (.cells (zb 512 (fl 64 (fun _ _ => 0))) 26)) (by omega) _) (by omega) _)⟩
     rw [← hwo]
     clear hwo B0 B1 B2 B3 B4 hb
     obtain ⟨B0, B1, B2, B3, B4, B5, B6, hb⟩ := hzQ
     obtain ⟨N1, hNN⟩ : ∃ n : Nat, n = W3.heap.size := ⟨_, rfl⟩
     rw [← hNN] at lt_B0 lt_B1 lt_B2 lt_B3 lt_B4 lhb B5 B6 ⊢
     clear hNN
     have zN1_0 := lt_B0
     have zN1_1 := lt_B1
     have zN1_2 := lt_B2
     have zN1_3 := lt_B3
     have zN1_4 := lt_B4
     have zN1 := lhb
     clear lt_B0 lt_B1 lt_B2 lt_B3 lt_B4 lhb
     try simp only [Act.put, pA, pB, pC]
     have lt_B0 : (w.heap.size) < W4.heap.size := B0.lt
     have lt_B1 : (w.heap.size + 1) < W4.heap.size := B1.lt
     have lt_B2 : (w.heap.size + 1 + 1) < W4.heap.size := B2.lt
     have lt_B3 : (w.heap.size + 1 + 1 + 1) < W4.heap.size := B3.lt
     have lt_B4 : (w.heap.size + 1 + 1 + 1 + 1) < W4.heap.size := B4.lt
     have lt_B5 : (N1) < W4.heap.size := B5.lt
     have lt_B6 : (N1 + 1) < W4.heap.size := B6.lt
     have hbase : w.heap.size ≤ W4.heap.size := hb.size
     refine zq Try.mixed (by kernel_rfl) (by kernel_rfl) (fun v => by (simp only [frL, Act.put, pA, pB, pC, Nat.reduceAdd, Nat.zero_add]; exact rfl))
      (fun L v W5 => Below w.heap.size w W5 ∧ Kx [w.heap.size + 1 + 1 + 1, w.heap.size + 1 + 1 + 1 + 1] W4 W5 ∧ (∃ g, Blk W5 (w.heap.size + 1 + 1 + 1) 512 26 (g)) ∧ (L 2 = false → Blk W5 (w.heap.size + 1 + 1 + 1) 512 26 (fl 64 (fun _ _ => 0))) ∧ (L 2 = true → Blk W5 (w.heap.size + 1 + 1 + 1) 512 26 (fl 64 (dq n m d F G).1)) ∧ (∃ g, Blk W5 (w.heap.size + 1 + 1 + 1 + 1) 512 26 (g)) ∧ (L 3 = false → Blk W5 (w.heap.size + 1 + 1 + 1 + 1) 512 26 (fl 64 (fun _ _ => 0))) ∧ (L 3 = true → Blk W5 (w.heap.size + 1 + 1 + 1 + 1) 512 26 (fl 64 (dq n m d F G).2)) ∧ VF L v [some (.agg (zb 512 (fl 64 (dq n m d F G).1))), some (.agg (zb 512 (fl 64 (dq n m d F G).2))), none, none, some (.int .i64 0)]) ?_ ?_ ?_
     · intro v hv0
       exact ⟨hb.drew, Kx.start _ _, ⟨_, B3.drew⟩, (fun _ => B3.drew), (fun h => by cases h), ⟨_, B4.drew⟩, (fun _ => B4.drew), (fun h => by cases h), VF.start⟩
     · refine (.cons rfl ?_ (.cons rfl ?_ (.cons rfl ?_ (.cons rfl ?_ (.cons rfl ?_ (.nil _))))))
       all_goals intro L v W5 hd hn ⟨hB, hX, x3, q3, n3, x4, q4, n4, V⟩ K hK
       · refine wp_load_any 26 _ rfl _ rfl 512 26 _ (B5.kx hX (by simp <;> omega)) _ Try.underlying26 rfl Try.size26 ?_
         exact hK _ _ _ rfl ⟨hB, hX, x3, q3, n3, x4, q4, n4, V.step 0 rfl⟩
       · refine wp_load_any 26 _ rfl _ rfl 512 26 _ (B6.kx hX (by simp <;> omega)) _ Try.underlying26 rfl Try.size26 ?_
         exact hK _ _ _ rfl ⟨hB, hX, x3, q3, n3, x4, q4, n4, V.step 1 rfl⟩
       · have e0 := V.at (zdq hd 0 rfl) rfl
         obtain ⟨gz, hk⟩ := x3
         refine zsb 26 _ _ rfl _ 512 (fl 64 (dq n m d F G).1) rfl e0 26 gz hk Try.size26 ?_
         exact hK _ undef _ rfl ⟨zr hB (by omega) _, hX.row (by simp) _, ⟨_, hk.row _⟩, (fun h => absurd h (by simp [setL])), (fun _ => hk.row _), (let ⟨g, h⟩ := x4; ⟨g, (h).rowOther (by omega)⟩), (fun h => (q4 h).rowOther (by omega)), (fun h => (n4 h).rowOther (by omega)), V.skip 2 rfl⟩
       · have e1 := V.at (zdq hd 1 rfl) rfl
         obtain ⟨gz, hk⟩ := x4
         refine zsb 26 _ _ rfl _ 512 (fl 64 (dq n m d F G).2) rfl e1 26 gz hk Try.size26 ?_
         exact hK _ undef _ rfl ⟨zr hB (by omega) _, hX.row (by simp) _, (let ⟨g, h⟩ := x3; ⟨g, (h).rowOther (by omega)⟩), (fun h => (q3 h).rowOther (by omega)), (fun h => (n3 h).rowOther (by omega)), ⟨_, hk.row _⟩, (fun h => absurd h (by simp [setL])), (fun _ => hk.row _), V.skip 3 rfl⟩
       · go_wp2_with fail
         exact hK _ (.int .i64 0) _ (by simp only [Act.put, pA, pB, pC ]) ⟨hB, hX, x3, q3, n3, x4, q4, n4, V.step 4 rfl⟩
     · intro L v W5 hL ⟨hB, hX, x3, q3, n3, x4, q4, n4, V⟩
       have r3 := n3 (hL 2 (by decide))
       have r4 := n4 (hL 3 (by decide))
       have e0 := V.at (hL 0 (by decide)) rfl
       have e1 := V.at (hL 1 (by decide)) rfl
       have e4 := V.at (hL 4 (by decide)) rfl
       clear hL x3 q3 n3 x4 q4 n4 V
       replace B0 := B0.kx hX (by simp <;> omega)
       replace B1 := B1.kx hX (by simp <;> omega)
       replace B2 := B2.kx hX (by simp <;> omega)
       replace B5 := B5.kx hX (by simp <;> omega)
       replace B6 := B6.kx hX (by simp <;> omega)
       clear hX
       simp only [Exit.then, e0, e1, e4]
       clear e0 e1 e4
       replace B3 := r3
       clear r3
       replace B4 := r4
       clear r4
       replace hb := hB
       clear hB
       clear hbase lt_B0 lt_B1 lt_B2 lt_B3 lt_B4 lt_B5 lt_B6
       go_wp2_with fail
       refine bodyPost_ret (results_any2t rfl _ _ _ 512 _ _ _ 512 _ _ rfl B3 _ Try.underlying26 rfl Try.size26 rfl B4 _ Try.underlying26 rfl Try.size26) rfl ⟨by first | (rw [HV.out]; rfl) | rw [HV.out], hb⟩
 · skip
   have HV := Lib.hid (drV_1 hc)
   have HC := Lib.hid (cdV_1 hc)
   go_upto_region 3 with (first | (refine zla (.tmp 5) B0 Try.underlying24 Try.size24 ?_) | (refine zla (.tmp 6) B1 Try.underlying26 Try.size26 ?_) | (refine zla (.tmp 7) B2 Try.underlying26 Try.size26 ?_) | (go_at_call 88; refine (l03Divided_any p m F G hm hF hG _).mono ?_; rintro e W2 ⟨rfl, hW2⟩; replace B0 := B0.zw hW2; replace B1 := B1.zw hW2; replace B2 := B2.zw hW2; replace B3 := B3.zw hW2; replace B4 := B4.zw hW2; replace hb := (hb).trans (hW2.mono (hb).size); rw [HC.out]))
   have lt_B0 := B0.lt
   have lt_B1 := B1.lt
   have lt_B2 := B2.lt
   have lt_B3 := B3.lt
   have lt_B4 := B4.lt
   go_wp2_with (first | rw [← z64] | rw [← zero512] | (refine zsr (.tmp 8) (.tmp 21) (fl 64 (fun _ _ => 0)) B3 Try.size26 ?_; try simp only [Act.put]) | (refine wpList_store_blk rfl 26 (.tmp 9) (.tmp 22) rfl _ 512 (fl 64 (fun _ _ => 0)) rfl rfl 26 _ ((B4.rowOther (by omega))) Try.size26 ?_; try simp only [Act.put]; go_wp2_with fail))
   obtain ⟨W3, hwo, hzQ⟩ : ∃ v : World, v = ((W2.setRow (w.heap.size + 1 + 1 + 1) (zb 512 (fl 64 (fun _ _ => 0)))).setRow (w.heap.size + 1 + 1 + 1 + 1) (zb 512 (fl 64 (fun _ _ => 0)))) ∧ Blk v (w.heap.size) 64 24 (m) ∧ Blk v (w.heap.size + 1) 512 26 (fl 64 F) ∧ Blk v (w.heap.size + 1 + 1) 512 26 (fl 64 G) ∧ Blk v (w.heap.size + 1 + 1 + 1) 512 26 (fl 64 (fun _ _ => 0)) ∧ Blk v (w.heap.size + 1 + 1 + 1 + 1) 512 26 (fl 64 (fun _ _ => 0)) ∧ Below w.heap.size w v := ⟨_, rfl, ((B0.rowOther (by omega)).rowOther (by omega)), ((B1.rowOther (by omega)).rowOther (by omega)), ((B2.rowOther (by omega)).rowOther (by omega)), ((B3.row (fl 64 (fun _ _ => 0))).rowOther (by omega)), ((B4.rowOther (by omega)).row (fl 64 (fun _ _ => 0))), (zr (zr hb (by omega) _) (by omega) _)⟩
   rw [← hwo]
   clear hwo B0 B1 B2 B3 B4 hb
   obtain ⟨B0, B1, B2, B3, B4, hb⟩ := hzQ
   try simp only [Act.put, pA, pB, pC]
   refine bodyPost_ret (results_any2t rfl _ _ _ 512 _ _ _ 512 _ _ rfl B3 _ Try.underlying26 rfl Try.size26 rfl B4 _ Try.underlying26 rfl Try.size26) rfl ⟨by first | (rw [HV.out]; rfl) | rw [HV.out], hb⟩
set_option maxRecDepth 100000 in
set_option maxHeartbeats 1600000 in
theorem divideSkewsR_any (p : Int) (m : Nat → Nat) (F G : Nat → Nat → Nat) (hm : byte m) (hF : ∀ i, byte (F i)) (hG : ∀ i, byte (G i)) (w : World) :
 Calls Try.prog 90 #[.int .i64 p, .agg (zb 64 m), .agg (zb 512 (fl 64 F)), .agg (zb 512 (fl 64 G)), .func (.func 91) #[] #[]] w fun e w' => e = .returned (.tuple #[.agg (zb 512 (fl 64 (drV p m F G).1.1)), .agg (zb 512 (fl 64 (drV p m F G).1.2)), .int .i64 (drV p m F G).2]) ∧ Below w.heap.size w w' := by
 go_enter Try.func90, Try.ntmps90
 go_upto_region 1 with (fail)
 rw [← zero512]
 obtain ⟨W1, hwo⟩ : ∃ v : World, v = (((((w.alloc (.cells (zb 64 (m)) 24)).alloc (.cells (zb 512 (fl 64 F)) 26)).alloc (.cells (zb 512 (fl 64 G)) 26)).alloc (.cells (zb 512 (fl 64 (fun _ _ => 0))) 26)).alloc (.cells (zb 512 (fl 64 (fun _ _ => 0))) 26)) := ⟨_, rfl⟩
 have B0 : Blk W1 (w.heap.size) 64 24 (m) := by subst hwo; have := (((((Blk.new w 64 24 (m)).alloc (.cells (zb 512 (fl 64 F)) 26)).alloc (.cells (zb 512 (fl 64 G)) 26)).alloc (.cells (zb 512 (fl 64 (fun _ _ => 0))) 26)).alloc (.cells (zb 512 (fl 64 (fun _ _ => 0))) 26)); simpa using this
 have B1 : Blk W1 (w.heap.size + 1) 512 26 (fl 64 F) := by subst hwo; have := ((((Blk.new (w.alloc (.cells (zb 64 (m)) 24)) 512 26 (fl 64 F)).alloc (.cells (zb 512 (fl 64 G)) 26)).alloc (.cells (zb 512 (fl 64 (fun _ _ => 0))) 26)).alloc (.cells (zb 512 (fl 64 (fun _ _ => 0))) 26)); simpa using this
 have B2 : Blk W1 (w.heap.size + 1 + 1) 512 26 (fl 64 G) := by subst hwo; have := (((Blk.new ((w.alloc (.cells (zb 64 (m)) 24)).alloc (.cells (zb 512 (fl 64 F)) 26)) 512 26 (fl 64 G)).alloc (.cells (zb 512 (fl 64 (fun _ _ => 0))) 26)).alloc (.cells (zb 512 (fl 64 (fun _ _ => 0))) 26)); simpa using this
 have B3 : Blk W1 (w.heap.size + 1 + 1 + 1) 512 26 (fl 64 (fun _ _ => 0)) := by subst hwo; have := ((Blk.new (((w.alloc (.cells (zb 64 (m)) 24)).alloc (.cells (zb 512 (fl 64 F)) 26)).alloc (.cells (zb 512 (fl 64 G)) 26)) 512 26 (fl 64 (fun _ _ => 0))).alloc (.cells (zb 512 (fl 64 (fun _ _ => 0))) 26)); simpa using this
 have B4 : Blk W1 (w.heap.size + 1 + 1 + 1 + 1) 512 26 (fl 64 (fun _ _ => 0)) := by subst hwo; have := (Blk.new ((((w.alloc (.cells (zb 64 (m)) 24)).alloc (.cells (zb 512 (fl 64 F)) 26)).alloc (.cells (zb 512 (fl 64 G)) 26)).alloc (.cells (zb 512 (fl 64 (fun _ _ => 0))) 26)) 512 26 (fl 64 (fun _ _ => 0))); simpa using this
 have hb : Below w.heap.size w W1 := by subst hwo; exact ((((((Below.refl _ _).alloc (Nat.le_refl _) _).alloc (by simp) _).alloc (by simp; omega) _).alloc (by simp; omega) _).alloc (by simp; omega) _)
 rw [← hwo]
 clear hwo
 rcases ckS_two p m [F, G] with hc | hc
 · by_cases hz : skD G < 0
   · have HV := Lib.hid (drV_5 hc hz)
     have hgd := Try.noGuard26
     have heq := fun W => run_equalIn_sk (P := Try.prog) W 9997 26 24 5 G (fun _ _ => 0) Try.underlying26 Try.underlying24 Try.underlying5 Try.size24 Try.size5
     rw [skE_zero, decide_eq_true hz] at heq
     go_upto_region 4 with (first | (refine zla (.tmp 6) B0 Try.underlying24 Try.size24 ?_) | (refine zla (.tmp 7) B1 Try.underlying26 Try.size26 ?_) | (refine zla (.tmp 8) B2 Try.underlying26 Try.size26 ?_) | (refine zbk rfl 159 _ [F, G] rfl 26 Try.underlying159 Try.elem26 (by simp) (by simp) rfl ?_; intro wa hps hba) | (go_at_call 85; refine (checkSkews_any _ m hm [F, G] (by simp [hF, hG]) (by simp) _ _ hps).mono ?_; rintro e W2 ⟨rfl, hbb⟩; rw [hc]))
     have hBB : Below W1.heap.size W1 W2 := hba.trans (hbb.mono hba.size)
     replace B0 := B0.zw hBB
     replace B1 := B1.zw hBB
     replace B2 := B2.zw hBB
     replace B3 := B3.zw hBB
     replace B4 := B4.zw hBB
     replace hb := hb.trans (hBB.mono hb.size)
     clear hBB hba hbb hps
     clear hc
     go_upto_region 5 with (first | rw [← zero512] | (refine zla (.tmp 8) B2 Try.underlying26 Try.size26 ?_))
     clear heq hgd
     have lt_B0 := B0.lt
     have lt_B1 := B1.lt
     have lt_B2 := B2.lt
     have lt_B3 := B3.lt
     have lt_B4 := B4.lt
     go_wp2_with (first | rw [← z64] | rw [← zero512] | (refine zsr (.tmp 10) (.tmp 30) (fl 64 (fun _ _ => 0)) B3 Try.size26 ?_; try simp only [Act.put]) | (refine wpList_store_blk rfl 26 (.tmp 11) (.tmp 31) rfl _ 512 (fl 64 (fun _ _ => 0)) rfl rfl 26 _ ((B4.rowOther (by omega))) Try.size26 ?_; try simp only [Act.put]; go_wp2_with fail))
     obtain ⟨W3, hwo, hzQ⟩ : ∃ v : World, v = ((W2.setRow (w.heap.size + 1 + 1 + 1) (zb 512 (fl 64 (fun _ _ => 0)))).setRow (w.heap.size + 1 + 1 + 1 + 1) (zb 512 (fl 64 (fun _ _ => 0)))) ∧ Blk v (w.heap.size) 64 24 (m) ∧ Blk v (w.heap.size + 1) 512 26 (fl 64 F) ∧ Blk v (w.heap.size + 1 + 1) 512 26 (fl 64 G) ∧ Blk v (w.heap.size + 1 + 1 + 1) 512 26 (fl 64 (fun _ _ => 0)) ∧ Blk v (w.heap.size + 1 + 1 + 1 + 1) 512 26 (fl 64 (fun _ _ => 0)) ∧ Below w.heap.size w v := ⟨_, rfl, ((B0.rowOther (by omega)).rowOther (by omega)), ((B1.rowOther (by omega)).rowOther (by omega)), ((B2.rowOther (by omega)).rowOther (by omega)), ((B3.row (fl 64 (fun _ _ => 0))).rowOther (by omega)), ((B4.rowOther (by omega)).row (fl 64 (fun _ _ => 0))), (zr (zr hb (by omega) _) (by omega) _)⟩
     rw [← hwo]
     clear hwo B0 B1 B2 B3 B4 hb
     obtain ⟨B0, B1, B2, B3, B4, hb⟩ := hzQ
     try simp only [Act.put, pA, pB, pC]
     refine bodyPost_ret (results_any2t rfl _ _ _ 512 _ _ _ 512 _ _ rfl B3 _ Try.underlying26 rfl Try.size26 rfl B4 _ Try.underlying26 rfl Try.size26) rfl ⟨by first | (rw [HV.out]; rfl) | rw [HV.out], hb⟩
   · obtain ⟨n, rfl, hpr, lm, ⟨d, hmon, hd1, hd4⟩, hl⟩ := ckS_fld hc
     have hd := hmon.1
     have lF : ∀ i, i < 8 → ∀ j, j < 64 → F i j < n := fun i hi => (hl F (by simp) i hi).1
     have rF : rsk n m F := ckS_rsk hl (by simp)
     have rG : rsk n m G := ckS_rsk hl (by simp)
     have hirr := ckS_irr hc hmon
     obtain ⟨b1, b2⟩ := zsd G
     have HV := Lib.hid (drV_0 hc hd hz)
     have HDV := Lib.hid (fun W => skDivR_any n m F G W hpr lm d hmon hirr (by omega) rF rG (by omega))
     have hgd := Try.noGuard26
     have heq := fun W => run_equalIn_sk (P := Try.prog) W 9997 26 24 5 G (fun _ _ => 0) Try.underlying26 Try.underlying24 Try.underlying5 Try.size24 Try.size5
     rw [skE_zero, decide_eq_false hz] at heq
     clear hl lF rF rG hirr hmon hz b1 b2 lm hpr hd
     go_upto_region 4 with (first | (refine zla (.tmp 6) B0 Try.underlying24 Try.size24 ?_) | (refine zla (.tmp 7) B1 Try.underlying26 Try.size26 ?_) | (refine zla (.tmp 8) B2 Try.underlying26 Try.size26 ?_) | (refine zbk rfl 159 _ [F, G] rfl 26 Try.underlying159 Try.elem26 (by simp) (by simp) rfl ?_; intro wa hps hba) | (go_at_call 85; refine (checkSkews_any _ m hm [F, G] (by simp [hF, hG]) (by simp) _ _ hps).mono ?_; rintro e W2 ⟨rfl, hbb⟩; rw [hc]))
     have hBB : Below W1.heap.size W1 W2 := hba.trans (hbb.mono hba.size)
     replace B0 := B0.zw hBB
     replace B1 := B1.zw hBB
     replace B2 := B2.zw hBB
     replace B3 := B3.zw hBB
     replace B4 := B4.zw hBB
     replace hb := hb.trans (hBB.mono hb.size)
     clear hBB hba hbb hps
     clear hc
     go_upto_region 6 with (first | rw [← zero512] | (refine zla (.tmp 8) B2 Try.underlying26 Try.size26 ?_))
     clear heq hgd
     have lt_B0 := B0.lt
     have lt_B1 := B1.lt
     have lt_B2 := B2.lt
     have lt_B3 := B3.lt
     have lt_B4 := B4.lt
     go_upto_region 7 with (first | rw [← z64] | rw [← zero512] | (refine zla (.tmp 7) B1 Try.underlying26 Try.size26 ?_) | (refine zla (.tmp 6) B0 Try.underlying24 Try.size24 ?_) | (refine zbo rfl 94 _ rfl (fdC (n : Int) m).toArray (by rw [Array.toList_map]; exact built_fd (n : Int) m) ?_) | (refine zla (.tmp 8) B2 Try.underlying26 Try.size26 ?_) | (go_at_call 184; refine (HDV.out _).mono ?_; rintro e W3 ⟨rfl, hW3⟩; replace B0 := B0.zw hW3; replace B1 := B1.zw hW3; replace B2 := B2.zw hW3; replace B3 := B3.zw hW3; replace B4 := B4.zw hW3; replace hb := (hb).trans (hW3.mono (hb).size)) | (refine wpList_store_blk rfl 26 (.tmp 14) (.tmp 40) rfl _ 512 (fl 64 (dq n m d F G).1) rfl rfl 26 _ (((Blk.new W3 512 26 (fl 64 (fun _ _ => 0))).alloc (.cells (zb 512 (fl 64 (fun _ _ => 0))) 26))) Try.size26 ?_; try simp only [Act.put]) | (refine wpList_store_blk rfl 26 (.tmp 15) (.tmp 41) rfl _ 512 (fl 64 (dq n m d F G).2) rfl rfl 26 _ (((show Blk ((W3.alloc (.cells (zb 512 (fl 64 (fun _ _ => 0))) 26)).alloc (.cells (zb 512 (fl 64 (fun _ _ => 0))) 26)) (W3.heap.size + 1) 512 26 (fl 64 (fun _ _ => 0)) by have := Blk.new (W3.alloc (.cells (zb 512 (fl 64 (fun _ _ => 0))) 26)) 512 26 (fl 64 (fun _ _ => 0)); simpa using this).rowOther (by omega))) Try.size26 ?_; try simp only [Act.put]))
     have lt_B0 := B0.lt
     have lt_B1 := B1.lt
     have lt_B2 := B2.lt
     have lt_B3 := B3.lt
     have lt_B4 := B4.lt
     have lhb := hb.size
     obtain ⟨W4, hwo, hzQ⟩ : ∃ v : World, v = ((((W3.alloc (.cells (zb 512 (fl 64 (fun _ _ => 0))) 26)).alloc (.cells (zb 512 (fl 64 (fun _ _ => 0))) 26)).setRow (W3.heap.size) (zb 512 (fl 64 (dq n m d F G).1))).setRow (W3.heap.size + 1) (zb 512 (fl 64 (dq n m d F G).2))) ∧ Blk v (w.heap.size) 64 24 (m) ∧ Blk v (w.heap.size + 1) 512 26 (fl 64 F) ∧ Blk v (w.heap.size + 1 + 1) 512 26 (fl 64 G) ∧ Blk v (w.heap.size + 1 + 1 + 1) 512 26 (fl 64 (fun _ _ => 0)) ∧ Blk v (w.heap.size + 1 + 1 + 1 + 1) 512 26 (fl 64 (fun _ _ => 0)) ∧ Blk v (W3.heap.size) 512 26 (fl 64 (dq n m d F G).1) ∧ Blk v (W3.heap.size + 1) 512 26 (fl 64 (dq n m d F G).2) ∧ Below w.heap.size w v := ⟨_, rfl, ((((B0.alloc (.cells (zb 512 (fl 64 (fun _ _ => 0))) 26)).alloc (.cells (zb 512 (fl 64 (fun _ _ => 0))) 26)).rowOther (by omega)).rowOther (by omega)), ((((B1.alloc (.cells (zb 512 (fl 64 (fun _ _ => 0))) 26)).alloc (.cells (zb 512 (fl 64 (fun _ _ => 0))) 26)).rowOther (by omega)).rowOther (by omega)), ((((B2.alloc (.cells (zb 512 (fl 64 (fun _ _ => 0))) 26)).alloc (.cells (zb 512 (fl 64 (fun _ _ => 0))) 26)).rowOther (by omega)).rowOther (by omega)), ((((B3.alloc (.cells (zb 512 (fl 64 (fun _ _ => 0))) 26)).alloc (.cells (zb 512 (fl 64 (fun _ _ => 0))) 26)).rowOther (by omega)).rowOther (by omega)), ((((B4.alloc (.cells (zb 512 (fl 64 (fun _ _ => 0))) 26)).alloc (.cells (zb 512 (fl 64 (fun _ _ => 0))) 26)).rowOther (by omega)).rowOther (by omega)), ((((Blk.new W3 512 26 (fl 64 (fun _ _ => 0))).alloc (.cells (zb 512 (fl 64 (fun _ _ => 0))) 26)).row (fl 64 (dq n m d F G).1)).rowOther (by omega)), (((show Blk ((W3.alloc (.cells (zb 512 (fl 64 (fun _ _ => 0))) 26)).alloc (.cells (zb 512 (fl 64 (fun _ _ => 0))) 26)) (W3.heap.size + 1) 512 26 (fl 64 (fun _ _ => 0)) by have := Blk.new (W3.alloc (.cells (zb 512 (fl 64 (fun _ _ => 0))) 26)) 512 26 (fl 64 (fun _ _ => 0)); simpa using this).rowOther (by omega)).row (fl 64 (dq n m d F G).2)), (zr (zr ((hb.alloc (by have := hb.size; simp; omega) (.cells (zb 512 (fl 64 (fun _ _ => 0))) 26)).alloc (by have := hb.size; simp; omega) (.cells (zb 512 (fl 64 (fun _ _ => 0))) 26)) (by omega) _) (by omega) _)⟩
     rw [← hwo]
     clear hwo B0 B1 B2 B3 B4 hb
     obtain ⟨B0, B1, B2, B3, B4, B5, B6, hb⟩ := hzQ
     obtain ⟨N1, hNN⟩ : ∃ n : Nat, n = W3.heap.size := ⟨_, rfl⟩
     rw [← hNN] at lt_B0 lt_B1 lt_B2 lt_B3 lt_B4 lhb B5 B6 ⊢
     clear hNN
     have zN1_0 := lt_B0
     have zN1_1 := lt_B1
     have zN1_2 := lt_B2
     have zN1_3 := lt_B3
     have zN1_4 := lt_B4
     have zN1 := lhb
     clear lt_B0 lt_B1 lt_B2 lt_B3 lt_B4 lhb
     try simp only [Act.put, pA, pB, pC]
     have lt_B0 : (w.heap.size) < W4.heap.size := B0.lt
     have lt_B1 : (w.heap.size + 1) < W4.heap.size := B1.lt
     have lt_B2 : (w.heap.size + 1 + 1) < W4.heap.size := B2.lt
     have lt_B3 : (w.heap.size + 1 + 1 + 1) < W4.heap.size := B3.lt
     have lt_B4 : (w.heap.size + 1 + 1 + 1 + 1) < W4.heap.size := B4.lt
     have lt_B5 : (N1) < W4.heap.size := B5.lt
     have lt_B6 : (N1 + 1) < W4.heap.size := B6.lt
     have hbase : w.heap.size ≤ W4.heap.size := hb.size
     refine zq Try.mixed (by kernel_rfl) (by kernel_rfl) (fun v => by (simp only [frL, Act.put, pA, pB, pC, Nat.reduceAdd, Nat.zero_add]; exact rfl))
      (fun L v W5 => Below w.heap.size w W5 ∧ Kx [w.heap.size + 1 + 1 + 1, w.heap.size + 1 + 1 + 1 + 1] W4 W5 ∧ (∃ g, Blk W5 (w.heap.size + 1 + 1 + 1) 512 26 (g)) ∧ (L 2 = false → Blk W5 (w.heap.size + 1 + 1 + 1) 512 26 (fl 64 (fun _ _ => 0))) ∧ (L 2 = true → Blk W5 (w.heap.size + 1 + 1 + 1) 512 26 (fl 64 (dq n m d F G).1)) ∧ (∃ g, Blk W5 (w.heap.size + 1 + 1 + 1 + 1) 512 26 (g)) ∧ (L 3 = false → Blk W5 (w.heap.size + 1 + 1 + 1 + 1) 512 26 (fl 64 (fun _ _ => 0))) ∧ (L 3 = true → Blk W5 (w.heap.size + 1 + 1 + 1 + 1) 512 26 (fl 64 (dq n m d F G).2)) ∧ VF L v [some (.agg (zb 512 (fl 64 (dq n m d F G).1))), some (.agg (zb 512 (fl 64 (dq n m d F G).2))), none, none, some (.int .i64 0)]) ?_ ?_ ?_
     · intro v hv0
       exact ⟨hb.drew, Kx.start _ _, ⟨_, B3.drew⟩, (fun _ => B3.drew), (fun h => by cases h), ⟨_, B4.drew⟩, (fun _ => B4.drew), (fun h => by cases h), VF.start⟩
     · refine (.cons rfl ?_ (.cons rfl ?_ (.cons rfl ?_ (.cons rfl ?_ (.cons rfl ?_ (.nil _))))))
       all_goals intro L v W5 hd hn ⟨hB, hX, x3, q3, n3, x4, q4, n4, V⟩ K hK
       · refine wp_load_any 26 _ rfl _ rfl 512 26 _ (B5.kx hX (by simp <;> omega)) _ Try.underlying26 rfl Try.size26 ?_
         exact hK _ _ _ rfl ⟨hB, hX, x3, q3, n3, x4, q4, n4, V.step 0 rfl⟩
       · refine wp_load_any 26 _ rfl _ rfl 512 26 _ (B6.kx hX (by simp <;> omega)) _ Try.underlying26 rfl Try.size26 ?_
         exact hK _ _ _ rfl ⟨hB, hX, x3, q3, n3, x4, q4, n4, V.step 1 rfl⟩
       · have e0 := V.at (zdq hd 0 rfl) rfl
         obtain ⟨gz, hk⟩ := x3
         refine zsb 26 _ _ rfl _ 512 (fl 64 (dq n m d F G).1) rfl e0 26 gz hk Try.size26 ?_
         exact hK _ undef _ rfl ⟨zr hB (by omega) _, hX.row (by simp) _, ⟨_, hk.row _⟩, (fun h => absurd h (by simp [setL])), (fun _ => hk.row _), (let ⟨g, h⟩ := x4; ⟨g, (h).rowOther (by omega)⟩), (fun h => (q4 h).rowOther (by omega)), (fun h => (n4 h).rowOther (by omega)), V.skip 2 rfl⟩
       · have e1 := V.at (zdq hd 1 rfl) rfl
         obtain ⟨gz, hk⟩ := x4
         refine zsb 26 _ _ rfl _ 512 (fl 64 (dq n m d F G).2) rfl e1 26 gz hk Try.size26 ?_
         exact hK _ undef _ rfl ⟨zr hB (by omega) _, hX.row (by simp) _, (let ⟨g, h⟩ := x3; ⟨g, (h).rowOther (by omega)⟩), (fun h => (q3 h).rowOther (by omega)), (fun h => (n3 h).rowOther (by omega)), ⟨_, hk.row _⟩, (fun h => absurd h (by simp [setL])), (fun _ => hk.row _), V.skip 3 rfl⟩
       · go_wp2_with fail
         exact hK _ (.int .i64 0) _ (by simp only [Act.put, pA, pB, pC ]) ⟨hB, hX, x3, q3, n3, x4, q4, n4, V.step 4 rfl⟩
     · intro L v W5 hL ⟨hB, hX, x3, q3, n3, x4, q4, n4, V⟩
       have r3 := n3 (hL 2 (by decide))
       have r4 := n4 (hL 3 (by decide))
       have e0 := V.at (hL 0 (by decide)) rfl
       have e1 := V.at (hL 1 (by decide)) rfl
       have e4 := V.at (hL 4 (by decide)) rfl
       clear hL x3 q3 n3 x4 q4 n4 V
       replace B0 := B0.kx hX (by simp <;> omega)
       replace B1 := B1.kx hX (by simp <;> omega)
       replace B2 := B2.kx hX (by simp <;> omega)
       replace B5 := B5.kx hX (by simp <;> omega)
       replace B6 := B6.kx hX (by simp <;> omega)
       clear hX
       simp only [Exit.then, e0, e1, e4]
       clear e0 e1 e4
       replace B3 := r3
       clear r3
       replace B4 := r4
       clear r4
       replace hb := hB
       clear hB
       clear hbase lt_B0 lt_B1 lt_B2 lt_B3 lt_B4 lt_B5 lt_B6
       go_wp2_with fail
       refine bodyPost_ret (results_any2t rfl _ _ _ 512 _ _ _ 512 _ _ rfl B3 _ Try.underlying26 rfl Try.size26 rfl B4 _ Try.underlying26 rfl Try.size26) rfl ⟨by first | (rw [HV.out]; rfl) | rw [HV.out], hb⟩
 · have HV := Lib.hid (drV_1 hc)
   go_upto_region 3 with (first | (refine zla (.tmp 6) B0 Try.underlying24 Try.size24 ?_) | (refine zla (.tmp 7) B1 Try.underlying26 Try.size26 ?_) | (refine zla (.tmp 8) B2 Try.underlying26 Try.size26 ?_) | (refine zbk rfl 159 _ [F, G] rfl 26 Try.underlying159 Try.elem26 (by simp) (by simp) rfl ?_; intro wa hps hba) | (go_at_call 85; refine (checkSkews_any _ m hm [F, G] (by simp [hF, hG]) (by simp) _ _ hps).mono ?_; rintro e W2 ⟨rfl, hbb⟩; rw [hc]))
   have hBB : Below W1.heap.size W1 W2 := hba.trans (hbb.mono hba.size)
   replace B0 := B0.zw hBB
   replace B1 := B1.zw hBB
   replace B2 := B2.zw hBB
   replace B3 := B3.zw hBB
   replace B4 := B4.zw hBB
   replace hb := hb.trans (hBB.mono hb.size)
   clear hBB hba hbb hps
   clear hc
   have lt_B0 := B0.lt
   have lt_B1 := B1.lt
   have lt_B2 := B2.lt
   have lt_B3 := B3.lt
   have lt_B4 := B4.lt
   go_wp2_with (first | rw [← z64] | rw [← zero512] | (refine zsr (.tmp 10) (.tmp 24) (fl 64 (fun _ _ => 0)) B3 Try.size26 ?_; try simp only [Act.put]) | (refine wpList_store_blk rfl 26 (.tmp 11) (.tmp 25) rfl _ 512 (fl 64 (fun _ _ => 0)) rfl rfl 26 _ ((B4.rowOther (by omega))) Try.size26 ?_; try simp only [Act.put]; go_wp2_with fail))
   obtain ⟨W3, hwo, hzQ⟩ : ∃ v : World, v = ((W2.setRow (w.heap.size + 1 + 1 + 1) (zb 512 (fl 64 (fun _ _ => 0)))).setRow (w.heap.size + 1 + 1 + 1 + 1) (zb 512 (fl 64 (fun _ _ => 0)))) ∧ Blk v (w.heap.size) 64 24 (m) ∧ Blk v (w.heap.size + 1) 512 26 (fl 64 F) ∧ Blk v (w.heap.size + 1 + 1) 512 26 (fl 64 G) ∧ Blk v (w.heap.size + 1 + 1 + 1) 512 26 (fl 64 (fun _ _ => 0)) ∧ Blk v (w.heap.size + 1 + 1 + 1 + 1) 512 26 (fl 64 (fun _ _ => 0)) ∧ Below w.heap.size w v := ⟨_, rfl, ((B0.rowOther (by omega)).rowOther (by omega)), ((B1.rowOther (by omega)).rowOther (by omega)), ((B2.rowOther (by omega)).rowOther (by omega)), ((B3.row (fl 64 (fun _ _ => 0))).rowOther (by omega)), ((B4.rowOther (by omega)).row (fl 64 (fun _ _ => 0))), (zr (zr hb (by omega) _) (by omega) _)⟩
   rw [← hwo]
   clear hwo B0 B1 B2 B3 B4 hb
   obtain ⟨B0, B1, B2, B3, B4, hb⟩ := hzQ
   try simp only [Act.put, pA, pB, pC]
   refine bodyPost_ret (results_any2t rfl _ _ _ 512 _ _ _ 512 _ _ rfl B3 _ Try.underlying26 rfl Try.size26 rfl B4 _ Try.underlying26 rfl Try.size26) rfl ⟨by first | (rw [HV.out]; rfl) | rw [HV.out], hb⟩
set_option maxRecDepth 100000 in
set_option maxHeartbeats 1600000 in
theorem impl_DivideRight_any (p : Int) (m : Nat → Nat) (F G : Nat → Nat → Nat) (hm : byte m) (hF : ∀ i, byte (F i)) (hG : ∀ i, byte (G i)) (w : World) :
 Calls Try.prog 29 #[.int .i64 p, .agg (zb 64 m), .agg (zb 512 (fl 64 F)), .agg (zb 512 (fl 64 G))] w fun e w' => e = .returned (.tuple #[.agg (zb 512 (fl 64 (drV p m F G).1.1)), .agg (zb 512 (fl 64 (drV p m F G).1.2)), .int .i64 (drV p m F G).2]) ∧ Below w.heap.size w w' := by
 have HD := Lib.hid (fun W => divideSkewsR_any p m F G hm hF hG W)
 go_enter Try.func29, Try.ntmps29
 go_upto_region 1 with (fail)
 rw [← zero512]
 obtain ⟨W1, hwo⟩ : ∃ v : World, v = (((((w.alloc (.cells (zb 64 (m)) 24)).alloc (.cells (zb 512 (fl 64 F)) 26)).alloc (.cells (zb 512 (fl 64 G)) 26)).alloc (.cells (zb 512 (fl 64 (fun _ _ => 0))) 26)).alloc (.cells (zb 512 (fl 64 (fun _ _ => 0))) 26)) := ⟨_, rfl⟩
 have B0 : Blk W1 (w.heap.size) 64 24 (m) := by subst hwo; have := (((((Blk.new w 64 24 (m)).alloc (.cells (zb 512 (fl 64 F)) 26)).alloc (.cells (zb 512 (fl 64 G)) 26)).alloc (.cells (zb 512 (fl 64 (fun _ _ => 0))) 26)).alloc (.cells (zb 512 (fl 64 (fun _ _ => 0))) 26)); simpa using this
 have B1 : Blk W1 (w.heap.size + 1) 512 26 (fl 64 F) := by subst hwo; have := ((((Blk.new (w.alloc (.cells (zb 64 (m)) 24)) 512 26 (fl 64 F)).alloc (.cells (zb 512 (fl 64 G)) 26)).alloc (.cells (zb 512 (fl 64 (fun _ _ => 0))) 26)).alloc (.cells (zb 512 (fl 64 (fun _ _ => 0))) 26)); simpa using this
 have B2 : Blk W1 (w.heap.size + 1 + 1) 512 26 (fl 64 G) := by subst hwo; have := (((Blk.new ((w.alloc (.cells (zb 64 (m)) 24)).alloc (.cells (zb 512 (fl 64 F)) 26)) 512 26 (fl 64 G)).alloc (.cells (zb 512 (fl 64 (fun _ _ => 0))) 26)).alloc (.cells (zb 512 (fl 64 (fun _ _ => 0))) 26)); simpa using this
 have B3 : Blk W1 (w.heap.size + 1 + 1 + 1) 512 26 (fl 64 (fun _ _ => 0)) := by subst hwo; have := ((Blk.new (((w.alloc (.cells (zb 64 (m)) 24)).alloc (.cells (zb 512 (fl 64 F)) 26)).alloc (.cells (zb 512 (fl 64 G)) 26)) 512 26 (fl 64 (fun _ _ => 0))).alloc (.cells (zb 512 (fl 64 (fun _ _ => 0))) 26)); simpa using this
 have B4 : Blk W1 (w.heap.size + 1 + 1 + 1 + 1) 512 26 (fl 64 (fun _ _ => 0)) := by subst hwo; have := (Blk.new ((((w.alloc (.cells (zb 64 (m)) 24)).alloc (.cells (zb 512 (fl 64 F)) 26)).alloc (.cells (zb 512 (fl 64 G)) 26)).alloc (.cells (zb 512 (fl 64 (fun _ _ => 0))) 26)) 512 26 (fl 64 (fun _ _ => 0))); simpa using this
 have hb : Below w.heap.size w W1 := by subst hwo; exact ((((((Below.refl _ _).alloc (Nat.le_refl _) _).alloc (by simp) _).alloc (by simp; omega) _).alloc (by simp; omega) _).alloc (by simp; omega) _)
 rw [← hwo]
 clear hwo
 have lt_B0 := B0.lt
 have lt_B1 := B1.lt
 have lt_B2 := B2.lt
 have lt_B3 := B3.lt
 have lt_B4 := B4.lt
 go_wp2_with (first | rw [← z64] | rw [← zero512] | (refine zla (.tmp 5) B0 Try.underlying24 Try.size24 ?_) | (refine zla (.tmp 6) B1 Try.underlying26 Try.size26 ?_) | (refine zla (.tmp 7) B2 Try.underlying26 Try.size26 ?_) | (go_at_call 90; refine (HD.out _).mono ?_; rintro e W2 ⟨rfl, hW2⟩; replace B0 := B0.zw hW2; replace B1 := B1.zw hW2; replace B2 := B2.zw hW2; replace B3 := B3.zw hW2; replace B4 := B4.zw hW2; replace hb := (hb).trans (hW2.mono (hb).size)) | (refine zsr (.tmp 8) (.tmp 16) (fl 64 (drV p m F G).1.1) B3 Try.size26 ?_; try simp only [Act.put]) | (refine wpList_store_blk rfl 26 (.tmp 9) (.tmp 17) rfl _ 512 (fl 64 (drV p m F G).1.2) rfl rfl 26 _ ((B4.rowOther (by omega))) Try.size26 ?_; try simp only [Act.put]; go_wp2_with fail))
 obtain ⟨W3, hwo, hzQ⟩ : ∃ v : World, v = ((W2.setRow (w.heap.size + 1 + 1 + 1) (zb 512 (fl 64 (drV p m F G).1.1))).setRow (w.heap.size + 1 + 1 + 1 + 1) (zb 512 (fl 64 (drV p m F G).1.2))) ∧ Blk v (w.heap.size) 64 24 (m) ∧ Blk v (w.heap.size + 1) 512 26 (fl 64 F) ∧ Blk v (w.heap.size + 1 + 1) 512 26 (fl 64 G) ∧ Blk v (w.heap.size + 1 + 1 + 1) 512 26 (fl 64 (drV p m F G).1.1) ∧ Blk v (w.heap.size + 1 + 1 + 1 + 1) 512 26 (fl 64 (drV p m F G).1.2) ∧ Below w.heap.size w v := ⟨_, rfl, ((B0.rowOther (by omega)).rowOther (by omega)), ((B1.rowOther (by omega)).rowOther (by omega)), ((B2.rowOther (by omega)).rowOther (by omega)), ((B3.row (fl 64 (drV p m F G).1.1)).rowOther (by omega)), ((B4.rowOther (by omega)).row (fl 64 (drV p m F G).1.2)), (zr (zr hb (by omega) _) (by omega) _)⟩
 rw [← hwo]
 clear hwo B0 B1 B2 B3 B4 hb
 obtain ⟨B0, B1, B2, B3, B4, hb⟩ := hzQ
 try simp only [Act.put, pA, pB, pC]
 refine bodyPost_ret (results_any2t rfl _ _ _ 512 _ _ _ 512 _ _ rfl B3 _ Try.underlying26 rfl Try.size26 rfl B4 _ Try.underlying26 rfl Try.size26) rfl ⟨rfl, hb⟩
end Go.Proofs.Ytdlojnmggogbaaa
end
section
namespace Go.Proofs.Ytdlojnmggogbaaa
open Go Go.RowKit
set_option linter.unusedVariables false
set_option linter.unusedSimpArgs false
set_option maxRecDepth 100000 in
set_option maxHeartbeats 1600000 in
theorem FnExactDivideRight_walk (p : Int) (m : Nat → Nat) (F : Nat → Nat → Nat) (G : Nat → Nat → Nat) (hm : byte m) (hF : ∀ i, byte (F i)) (hG : ∀ i, byte (G i)) (w : World) :
 Calls Try.prog 4 #[.int .i64 p, .agg (zb 64 m), .agg (zb 512 (fl 64 F)), .agg (zb 512 (fl 64 G))] w fun e w' => e = .returned (.bool true) ∧ Below w.heap.size w w' := by
 go_enter Try.func4, Try.ntmps4
 go_upto_region 1 with (fail)
 obtain ⟨W1, hwo⟩ : ∃ v : World, v = (((w.alloc (.cells (zb 64 (m)) 22)).alloc (.cells (zb 512 (fl 64 F)) 23)).alloc (.cells (zb 512 (fl 64 G)) 23)) := ⟨_, rfl⟩
 have B0 : Blk W1 (w.heap.size) 64 22 (m) := by subst hwo; have := (((Blk.new w 64 22 (m)).alloc (.cells (zb 512 (fl 64 F)) 23)).alloc (.cells (zb 512 (fl 64 G)) 23)); simpa using this
 have B1 : Blk W1 (w.heap.size + 1) 512 23 (fl 64 F) := by subst hwo; have := ((Blk.new (w.alloc (.cells (zb 64 (m)) 22)) 512 23 (fl 64 F)).alloc (.cells (zb 512 (fl 64 G)) 23)); simpa using this
 have B2 : Blk W1 (w.heap.size + 1 + 1) 512 23 (fl 64 G) := by subst hwo; have := (Blk.new ((w.alloc (.cells (zb 64 (m)) 22)).alloc (.cells (zb 512 (fl 64 F)) 23)) 512 23 (fl 64 G)); simpa using this
 have hb : Below w.heap.size w W1 := by subst hwo; exact ((((Below.refl _ _).alloc (Nat.le_refl _) _).alloc (by simp) _).alloc (by simp; omega) _)
 rw [← hwo]
 clear hwo
 have hne2 : (((drV p m F G).2) != ((drV p m F G).2)) = false := by simp
 have lt_B0 : (w.heap.size) < W1.heap.size := B0.lt
 have lt_B1 : (w.heap.size + 1) < W1.heap.size := B1.lt
 have lt_B2 : (w.heap.size + 1 + 1) < W1.heap.size := B2.lt
 have hbase : w.heap.size ≤ W1.heap.size := hb.size
 refine zq Try.mixed (by kernel_rfl) (by kernel_rfl) (fun v => by (simp only [frL, Act.put, pA, pB, pC, Nat.reduceAdd, Nat.zero_add]; exact rfl))
  (fun L v W2 => Below w.heap.size w W2 ∧ W1.heap.size ≤ W2.heap.size ∧ Blk W2 (w.heap.size) 64 22 (m) ∧ Blk W2 (w.heap.size + 1) 512 23 (fl 64 F) ∧ Blk W2 (w.heap.size + 1 + 1) 512 23 (fl 64 G) ∧ (L 12 = true → AF (v 12) W2 W1.heap.size 512 26) ∧ (L 13 = true → AF (v 13) W2 W1.heap.size 512 26) ∧ (L 14 = true → PF (v 12) W2 W1.heap.size 512 26 (fl 64 ((drV p m F G).1.1))) ∧ (L 15 = true → PF (v 13) W2 W1.heap.size 512 26 (fl 64 ((drV p m F G).1.2))) ∧ (L 12 = true → L 13 = true → v 12 ≠ v 13) ∧ VF L v [some (.int .i64 p), some (.agg (zb 64 (m))), some (.agg (zb 64 (m))), some (.agg (zb 512 (fl 64 F))), some (.agg (zb 512 (fl 64 F))), some (.agg (zb 512 (fl 64 G))), some (.agg (zb 512 (fl 64 G))), some (.tuple #[(.agg (zb 512 (fl 64 ((drV p m F G).1.1)))), (.agg (zb 512 (fl 64 ((drV p m F G).1.2)))), (.int .i64 ((drV p m F G).2))]), some (.tuple #[(.agg (zb 512 (fl 64 ((drV p m F G).1.1)))), (.agg (zb 512 (fl 64 ((drV p m F G).1.2)))), (.int .i64 ((drV p m F G).2))]), some (.agg (zb 512 (fl 64 ((drV p m F G).1.1)))), some (.agg (zb 512 (fl 64 ((drV p m F G).1.2)))), some (.int .i64 ((drV p m F G).2)), none, none, none, none, some (.int .i64 ((drV p m F G).2))]) ?_ ?_ ?_
 · intro v hv0
   exact ⟨hb.drew, Nat.le_refl _, B0.drew, B1.drew, B2.drew, (fun h => by cases h), (fun h => by cases h), (fun h => by cases h), (fun h => by cases h), (fun h => by cases h), VF.start⟩
 · refine (.cons rfl ?_ (.cons rfl ?_ (.cons rfl ?_ (.cons rfl ?_ (.cons rfl ?_ (.cons rfl ?_ (.cons rfl ?_ (.cons rfl ?_ (.cons rfl ?_ (.cons rfl ?_ (.cons rfl ?_ (.cons rfl ?_ (.cons rfl ?_ (.cons rfl ?_ (.cons rfl ?_ (.cons rfl ?_ (.cons rfl ?_ (.nil _))))))))))))))))))
   all_goals intro L v W2 hd hn ⟨hB, hz, s0, s1, s2, h12, h13, h14, h15, d12_13, V⟩ K hK
   · go_wp2_with fail
     exact hK _ (.int .i64 p) _ (by simp only [Act.put, pA, pB, pC ]) ⟨hB, hz, s0, s1, s2, h12, h13, h14, h15, d12_13, V.step 0 rfl⟩
   · refine zlc s0 Try.underlying22 Try.size22 ?_
     exact hK _ _ _ rfl ⟨hB, hz, s0, s1, s2, h12, h13, h14, h15, d12_13, V.step 1 rfl⟩
   · have e1 := V.at (zdq hd 1 rfl) rfl
     go_wp2_with (go_at_call 24; refine (toPoly_any m hm _).mono ?_; rintro e wy ⟨rfl, hy⟩)
     exact hK _ (.agg (zb 64 (m))) _ (by simp only [Act.put, pA, pB, pC, e1]) ⟨hB.trans (hy.mono hB.size), (Nat.le_trans hz hy.size), s0.zw hy, s1.zw hy, s2.zw hy, (fun h => (h12 h).below hy), (fun h => (h13 h).below hy), (fun h => (h14 h).below hy), (fun h => (h15 h).below hy), d12_13, V.step 2 rfl⟩
   · refine zlc s1 Try.underlying23 Try.size23 ?_
     exact hK _ _ _ rfl ⟨hB, hz, s0, s1, s2, h12, h13, h14, h15, d12_13, V.step 3 rfl⟩
   · have e3 := V.at (zdq hd 3 rfl) rfl
     go_wp2_with (go_at_call 25; refine (toSkew_any F hF _).mono ?_; rintro e wy ⟨rfl, hy⟩)
     exact hK _ (.agg (zb 512 (fl 64 F))) _ (by simp only [Act.put, pA, pB, pC, e3]) ⟨hB.trans (hy.mono hB.size), (Nat.le_trans hz hy.size), s0.zw hy, s1.zw hy, s2.zw hy, (fun h => (h12 h).below hy), (fun h => (h13 h).below hy), (fun h => (h14 h).below hy), (fun h => (h15 h).below hy), d12_13, V.step 4 rfl⟩
   · refine zlc s2 Try.underlying23 Try.size23 ?_
     exact hK _ _ _ rfl ⟨hB, hz, s0, s1, s2, h12, h13, h14, h15, d12_13, V.step 5 rfl⟩
   · have e5 := V.at (zdq hd 5 rfl) rfl
     go_wp2_with (go_at_call 25; refine (toSkew_any G hG _).mono ?_; rintro e wy ⟨rfl, hy⟩)
     exact hK _ (.agg (zb 512 (fl 64 G))) _ (by simp only [Act.put, pA, pB, pC, e5]) ⟨hB.trans (hy.mono hB.size), (Nat.le_trans hz hy.size), s0.zw hy, s1.zw hy, s2.zw hy, (fun h => (h12 h).below hy), (fun h => (h13 h).below hy), (fun h => (h14 h).below hy), (fun h => (h15 h).below hy), d12_13, V.step 6 rfl⟩
   · have e0 := V.at (zdq hd 0 rfl) rfl
     have e2 := V.at (zdq hd 2 rfl) rfl
     have e4 := V.at (zdq hd 4 rfl) rfl
     have e6 := V.at (zdq hd 6 rfl) rfl
     go_wp2_with (go_at_call 28; refine (spec_DivideRight_any p m F G hm hF hG _).mono ?_; rintro e wy ⟨rfl, hy⟩)
     exact hK _ (.tuple #[(.agg (zb 512 (fl 64 ((drV p m F G).1.1)))), (.agg (zb 512 (fl 64 ((drV p m F G).1.2)))), (.int .i64 ((drV p m F G).2))]) _ (by simp only [Act.put, pA, pB, pC, e0, e2, e4, e6]) ⟨hB.trans (hy.mono hB.size), (Nat.le_trans hz hy.size), s0.zw hy, s1.zw hy, s2.zw hy, (fun h => (h12 h).below hy), (fun h => (h13 h).below hy), (fun h => (h14 h).below hy), (fun h => (h15 h).below hy), d12_13, V.step 7 rfl⟩
   · have e7 := V.at (zdq hd 7 rfl) rfl
     go_wp2_with fail
     exact hK _ (.tuple #[(.agg (zb 512 (fl 64 ((drV p m F G).1.1)))), (.agg (zb 512 (fl 64 ((drV p m F G).1.2)))), (.int .i64 ((drV p m F G).2))]) _ (by simp only [Act.put, pA, pB, pC, e7]) ⟨hB, hz, s0, s1, s2, h12, h13, h14, h15, d12_13, V.step 8 rfl⟩
   · have e8 := V.at (zdq hd 8 rfl) rfl
     go_wp2_with fail
     exact hK _ (.agg (zb 512 (fl 64 ((drV p m F G).1.1)))) _ (by simp only [Act.put, pA, pB, pC, e8]) ⟨hB, hz, s0, s1, s2, h12, h13, h14, h15, d12_13, V.step 9 rfl⟩
   · have e8 := V.at (zdq hd 8 rfl) rfl
     go_wp2_with fail
     exact hK _ (.agg (zb 512 (fl 64 ((drV p m F G).1.2)))) _ (by simp only [Act.put, pA, pB, pC, e8]) ⟨hB, hz, s0, s1, s2, h12, h13, h14, h15, d12_13, V.step 10 rfl⟩
   · have e8 := V.at (zdq hd 8 rfl) rfl
     go_wp2_with fail
     exact hK _ (.int .i64 ((drV p m F G).2)) _ (by simp only [Act.put, pA, pB, pC, e8]) ⟨hB, hz, s0, s1, s2, h12, h13, h14, h15, d12_13, V.step 11 rfl⟩
   · go_wp2_with fail
     rw [← zero512]
     exact hK _ (.pointer (some ⟨W2.heap.size, 0, none⟩)) _ (by simp only [Act.put, pA, pB, pC ]) ⟨hB.alloc hB.size _, (by simp; omega), (s0).alloc _, (s1).alloc _, (s2).alloc _, (fun _ => (PF.new W2 512 26 _ hz).af), (fun h => (h13 h).below (zal _ _)), (fun h => absurd rfl (hn 14 _ rfl h ⟨12, .data⟩ (by simp) rfl)), (fun h => (h15 h).below (zal _ _)), (fun h g1 => Ne.symm ((h13 g1).ne_new)), V.skip 12 rfl⟩
   · go_wp2_with fail
     rw [← zero512]
     exact hK _ (.pointer (some ⟨W2.heap.size, 0, none⟩)) _ (by simp only [Act.put, pA, pB, pC ]) ⟨hB.alloc hB.size _, (by simp; omega), (s0).alloc _, (s1).alloc _, (s2).alloc _, (fun h => (h12 h).below (zal _ _)), (fun _ => (PF.new W2 512 26 _ hz).af), (fun h => (h14 h).below (zal _ _)), (fun h => absurd rfl (hn 15 _ rfl h ⟨13, .data⟩ (by simp) rfl)), (fun h g1 => (h12 h).ne_new), V.skip 13 rfl⟩
   · have e9 := V.at (zdq hd 9 rfl) rfl
     obtain ⟨gz, b, ea, hN, hk⟩ := (h12 (zdq hd 12 rfl)).out
     refine zsb 26 _ _ rfl b 512 (fl 64 ((drV p m F G).1.1)) ea e9 26 gz hk Try.size26 ?_
     exact hK _ undef _ rfl ⟨zr hB (Nat.le_trans hbase hN) _, (by simpa [World.setRow] using hz), (s0).rowOther (by omega), (s1).rowOther (by omega), (s2).rowOther (by omega), (fun h => (h12 h).row hk), (fun h => (h13 h).row hk), (fun _ => by rw [show updV v 14 undef 12 = v 12 from rfl, ea]; exact PF.row hk hN _), (fun h => (h15 h).rowOther (by rw [← ea]; exact (Ne.symm (d12_13 (zdq hd 12 rfl) (zdq hd 13 rfl))))), d12_13, V.skip 14 rfl⟩
   · have e10 := V.at (zdq hd 10 rfl) rfl
     obtain ⟨gz, b, ea, hN, hk⟩ := (h13 (zdq hd 13 rfl)).out
     refine zsb 26 _ _ rfl b 512 (fl 64 ((drV p m F G).1.2)) ea e10 26 gz hk Try.size26 ?_
     exact hK _ undef _ rfl ⟨zr hB (Nat.le_trans hbase hN) _, (by simpa [World.setRow] using hz), (s0).rowOther (by omega), (s1).rowOther (by omega), (s2).rowOther (by omega), (fun h => (h12 h).row hk), (fun h => (h13 h).row hk), (fun h => (h14 h).rowOther (by rw [← ea]; exact (d12_13 (zdq hd 12 rfl) (zdq hd 13 rfl)))), (fun _ => by rw [show updV v 15 undef 13 = v 13 from rfl, ea]; exact PF.row hk hN _), d12_13, V.skip 15 rfl⟩
   · have e11 := V.at (zdq hd 11 rfl) rfl
     go_wp2_with fail
     exact hK _ (.int .i64 ((drV p m F G).2)) _ (by simp only [Act.put, pA, pB, pC, e11]) ⟨hB, hz, s0, s1, s2, h12, h13, h14, h15, d12_13, V.step 16 rfl⟩
 · intro L v W2 hL ⟨hB, hz, s0, s1, s2, h12, h13, h14, h15, d12_13, V⟩
   obtain ⟨k1_12, e12, hNk1_12, hk1_12⟩ := (h14 (hL 14 (by decide))).out
   obtain ⟨k1_13, e13, hNk1_13, hk1_13⟩ := (h15 (hL 15 (by decide))).out
   have n12_13 := d12_13 (hL 12 (by decide)) (hL 13 (by decide))
   have e0 := V.at (hL 0 (by decide)) rfl
   have e1 := V.at (hL 1 (by decide)) rfl
   have e2 := V.at (hL 2 (by decide)) rfl
   have e3 := V.at (hL 3 (by decide)) rfl
   have e4 := V.at (hL 4 (by decide)) rfl
   have e5 := V.at (hL 5 (by decide)) rfl
   have e6 := V.at (hL 6 (by decide)) rfl
   have e7 := V.at (hL 7 (by decide)) rfl
   have e8 := V.at (hL 8 (by decide)) rfl
   have e9 := V.at (hL 9 (by decide)) rfl
   have e10 := V.at (hL 10 (by decide)) rfl
   have e11 := V.at (hL 11 (by decide)) rfl
   have e16 := V.at (hL 16 (by decide)) rfl
   clear hL h12 h13 h14 h15 d12_13 V
   rw [e12, e13] at n12_13
   have mk1_12_13 : k1_12 ≠ k1_13 := fun h => n12_13 (by rw [h])
   clear n12_13
   simp only [Exit.then, e12, e13, e0, e1, e2, e3, e4, e5, e6, e7, e8, e9, e10, e11, e16]
   clear e12 e13 e0 e1 e2 e3 e4 e5 e6 e7 e8 e9 e10 e11 e16
   replace B0 := s0
   clear s0
   replace B1 := s1
   clear s1
   replace B2 := s2
   clear s2
   replace hb := hB
   clear hB
   have B3 := hk1_12
   clear hk1_12
   have zk1_12_0 : w.heap.size < k1_12 := by omega
   have zk1_12_1 : w.heap.size + 1 < k1_12 := by omega
   have zk1_12_2 : w.heap.size + 1 + 1 < k1_12 := by omega
   have B4 := hk1_13
   clear hk1_13
   have zk1_13_0 : w.heap.size < k1_13 := by omega
   have zk1_13_1 : w.heap.size + 1 < k1_13 := by omega
   have zk1_13_2 : w.heap.size + 1 + 1 < k1_13 := by omega
   clear hbase hz lt_B0 lt_B1 lt_B2
   go_upto_region 2 with (fail)
   have lt_B0 : (w.heap.size) < W2.heap.size := B0.lt
   have lt_B1 : (w.heap.size + 1) < W2.heap.size := B1.lt
   have lt_B2 : (w.heap.size + 1 + 1) < W2.heap.size := B2.lt
   have lt_B3 : (k1_12) < W2.heap.size := B3.lt
   have lt_B4 : (k1_13) < W2.heap.size := B4.lt
   have hbase : w.heap.size ≤ W2.heap.size := hb.size
   refine zq Try.mixed (by kernel_rfl) (by kernel_rfl) (fun v => by (simp only [frL, Act.put, pA, pB, pC, Nat.reduceAdd, Nat.zero_add]; exact rfl))
    (fun L v W3 => Below w.heap.size w W3 ∧ W2.heap.size ≤ W3.heap.size ∧ Blk W3 (w.heap.size) 64 22 (m) ∧ Blk W3 (w.heap.size + 1) 512 23 (fl 64 F) ∧ Blk W3 (w.heap.size + 1 + 1) 512 23 (fl 64 G) ∧ Blk W3 (k1_12) 512 26 (fl 64 ((drV p m F G).1.1)) ∧ Blk W3 (k1_13) 512 26 (fl 64 ((drV p m F G).1.2)) ∧ (L 12 = true → AF (v 12) W3 W2.heap.size 512 26) ∧ (L 13 = true → AF (v 13) W3 W2.heap.size 512 26) ∧ (L 14 = true → PF (v 12) W3 W2.heap.size 512 26 (fl 64 ((drV p m F G).1.1))) ∧ (L 15 = true → PF (v 13) W3 W2.heap.size 512 26 (fl 64 ((drV p m F G).1.2))) ∧ (L 12 = true → L 13 = true → v 12 ≠ v 13) ∧ VF L v [some (.int .i64 p), some (.agg (zb 64 (m))), some (.agg (zb 64 (m))), some (.agg (zb 512 (fl 64 F))), some (.agg (zb 512 (fl 64 F))), some (.agg (zb 512 (fl 64 G))), some (.agg (zb 512 (fl 64 G))), some (.tuple #[(.agg (zb 512 (fl 64 ((drV p m F G).1.1)))), (.agg (zb 512 (fl 64 ((drV p m F G).1.2)))), (.int .i64 ((drV p m F G).2))]), some (.tuple #[(.agg (zb 512 (fl 64 ((drV p m F G).1.1)))), (.agg (zb 512 (fl 64 ((drV p m F G).1.2)))), (.int .i64 ((drV p m F G).2))]), some (.agg (zb 512 (fl 64 ((drV p m F G).1.1)))), some (.agg (zb 512 (fl 64 ((drV p m F G).1.2)))), some (.int .i64 ((drV p m F G).2)), none, none, none, none, some (.int .i64 ((drV p m F G).2))]) ?_ ?_ ?_
   · intro v hv0
     exact ⟨hb.drew, Nat.le_refl _, B0.drew, B1.drew, B2.drew, B3.drew, B4.drew, (fun h => by cases h), (fun h => by cases h), (fun h => by cases h), (fun h => by cases h), (fun h => by cases h), VF.start⟩
   · refine (.cons rfl ?_ (.cons rfl ?_ (.cons rfl ?_ (.cons rfl ?_ (.cons rfl ?_ (.cons rfl ?_ (.cons rfl ?_ (.cons rfl ?_ (.cons rfl ?_ (.cons rfl ?_ (.cons rfl ?_ (.cons rfl ?_ (.cons rfl ?_ (.cons rfl ?_ (.cons rfl ?_ (.cons rfl ?_ (.cons rfl ?_ (.nil _))))))))))))))))))
     all_goals intro L v W3 hd hn ⟨hB, hz, s0, s1, s2, s3, s4, h12, h13, h14, h15, d12_13, V⟩ K hK
     · go_wp2_with fail
       exact hK _ (.int .i64 p) _ (by simp only [Act.put, pA, pB, pC ]) ⟨hB, hz, s0, s1, s2, s3, s4, h12, h13, h14, h15, d12_13, V.step 0 rfl⟩
     · refine zlc s0 Try.underlying22 Try.size22 ?_
       exact hK _ _ _ rfl ⟨hB, hz, s0, s1, s2, s3, s4, h12, h13, h14, h15, d12_13, V.step 1 rfl⟩
     · have e1 := V.at (zdq hd 1 rfl) rfl
       go_wp2_with (go_at_call 24; refine (toPoly_any m hm _).mono ?_; rintro e wy ⟨rfl, hy⟩)
       exact hK _ (.agg (zb 64 (m))) _ (by simp only [Act.put, pA, pB, pC, e1]) ⟨hB.trans (hy.mono hB.size), (Nat.le_trans hz hy.size), s0.zw hy, s1.zw hy, s2.zw hy, s3.zw hy, s4.zw hy, (fun h => (h12 h).below hy), (fun h => (h13 h).below hy), (fun h => (h14 h).below hy), (fun h => (h15 h).below hy), d12_13, V.step 2 rfl⟩
     · refine zlc s1 Try.underlying23 Try.size23 ?_
       exact hK _ _ _ rfl ⟨hB, hz, s0, s1, s2, s3, s4, h12, h13, h14, h15, d12_13, V.step 3 rfl⟩
     · have e3 := V.at (zdq hd 3 rfl) rfl
       go_wp2_with (go_at_call 25; refine (toSkew_any F hF _).mono ?_; rintro e wy ⟨rfl, hy⟩)
       exact hK _ (.agg (zb 512 (fl 64 F))) _ (by simp only [Act.put, pA, pB, pC, e3]) ⟨hB.trans (hy.mono hB.size), (Nat.le_trans hz hy.size), s0.zw hy, s1.zw hy, s2.zw hy, s3.zw hy, s4.zw hy, (fun h => (h12 h).below hy), (fun h => (h13 h).below hy), (fun h => (h14 h).below hy), (fun h => (h15 h).below hy), d12_13, V.step 4 rfl⟩
     · refine zlc s2 Try.underlying23 Try.size23 ?_
       exact hK _ _ _ rfl ⟨hB, hz, s0, s1, s2, s3, s4, h12, h13, h14, h15, d12_13, V.step 5 rfl⟩
     · have e5 := V.at (zdq hd 5 rfl) rfl
       go_wp2_with (go_at_call 25; refine (toSkew_any G hG _).mono ?_; rintro e wy ⟨rfl, hy⟩)
       exact hK _ (.agg (zb 512 (fl 64 G))) _ (by simp only [Act.put, pA, pB, pC, e5]) ⟨hB.trans (hy.mono hB.size), (Nat.le_trans hz hy.size), s0.zw hy, s1.zw hy, s2.zw hy, s3.zw hy, s4.zw hy, (fun h => (h12 h).below hy), (fun h => (h13 h).below hy), (fun h => (h14 h).below hy), (fun h => (h15 h).below hy), d12_13, V.step 6 rfl⟩
     · have e0 := V.at (zdq hd 0 rfl) rfl
       have e2 := V.at (zdq hd 2 rfl) rfl
       have e4 := V.at (zdq hd 4 rfl) rfl
       have e6 := V.at (zdq hd 6 rfl) rfl
       go_wp2_with (go_at_call 29; refine (impl_DivideRight_any p m F G hm hF hG _).mono ?_; rintro e wy ⟨rfl, hy⟩)
       exact hK _ (.tuple #[(.agg (zb 512 (fl 64 ((drV p m F G).1.1)))), (.agg (zb 512 (fl 64 ((drV p m F G).1.2)))), (.int .i64 ((drV p m F G).2))]) _ (by simp only [Act.put, pA, pB, pC, e0, e2, e4, e6]) ⟨hB.trans (hy.mono hB.size), (Nat.le_trans hz hy.size), s0.zw hy, s1.zw hy, s2.zw hy, s3.zw hy, s4.zw hy, (fun h => (h12 h).below hy), (fun h => (h13 h).below hy), (fun h => (h14 h).below hy), (fun h => (h15 h).below hy), d12_13, V.step 7 rfl⟩
     · have e7 := V.at (zdq hd 7 rfl) rfl
       go_wp2_with fail
       exact hK _ (.tuple #[(.agg (zb 512 (fl 64 ((drV p m F G).1.1)))), (.agg (zb 512 (fl 64 ((drV p m F G).1.2)))), (.int .i64 ((drV p m F G).2))]) _ (by simp only [Act.put, pA, pB, pC, e7]) ⟨hB, hz, s0, s1, s2, s3, s4, h12, h13, h14, h15, d12_13, V.step 8 rfl⟩
     · have e8 := V.at (zdq hd 8 rfl) rfl
       go_wp2_with fail
       exact hK _ (.agg (zb 512 (fl 64 ((drV p m F G).1.1)))) _ (by simp only [Act.put, pA, pB, pC, e8]) ⟨hB, hz, s0, s1, s2, s3, s4, h12, h13, h14, h15, d12_13, V.step 9 rfl⟩
     · have e8 := V.at (zdq hd 8 rfl) rfl
       go_wp2_with fail
       exact hK _ (.agg (zb 512 (fl 64 ((drV p m F G).1.2)))) _ (by simp only [Act.put, pA, pB, pC, e8]) ⟨hB, hz, s0, s1, s2, s3, s4, h12, h13, h14, h15, d12_13, V.step 10 rfl⟩
     · have e8 := V.at (zdq hd 8 rfl) rfl
       go_wp2_with fail
       exact hK _ (.int .i64 ((drV p m F G).2)) _ (by simp only [Act.put, pA, pB, pC, e8]) ⟨hB, hz, s0, s1, s2, s3, s4, h12, h13, h14, h15, d12_13, V.step 11 rfl⟩
     · go_wp2_with fail
       rw [← zero512]
       exact hK _ (.pointer (some ⟨W3.heap.size, 0, none⟩)) _ (by simp only [Act.put, pA, pB, pC ]) ⟨hB.alloc hB.size _, (by simp; omega), (s0).alloc _, (s1).alloc _, (s2).alloc _, (s3).alloc _, (s4).alloc _, (fun _ => (PF.new W3 512 26 _ hz).af), (fun h => (h13 h).below (zal _ _)), (fun h => absurd rfl (hn 14 _ rfl h ⟨12, .data⟩ (by simp) rfl)), (fun h => (h15 h).below (zal _ _)), (fun h g1 => Ne.symm ((h13 g1).ne_new)), V.skip 12 rfl⟩
     · go_wp2_with fail
       rw [← zero512]
       exact hK _ (.pointer (some ⟨W3.heap.size, 0, none⟩)) _ (by simp only [Act.put, pA, pB, pC ]) ⟨hB.alloc hB.size _, (by simp; omega), (s0).alloc _, (s1).alloc _, (s2).alloc _, (s3).alloc _, (s4).alloc _, (fun h => (h12 h).below (zal _ _)), (fun _ => (PF.new W3 512 26 _ hz).af), (fun h => (h14 h).below (zal _ _)), (fun h => absurd rfl (hn 15 _ rfl h ⟨13, .data⟩ (by simp) rfl)), (fun h g1 => (h12 h).ne_new), V.skip 13 rfl⟩
     · have e9 := V.at (zdq hd 9 rfl) rfl
       obtain ⟨gz, b, ea, hN, hk⟩ := (h12 (zdq hd 12 rfl)).out
       refine zsb 26 _ _ rfl b 512 (fl 64 ((drV p m F G).1.1)) ea e9 26 gz hk Try.size26 ?_
       exact hK _ undef _ rfl ⟨zr hB (Nat.le_trans hbase hN) _, (by simpa [World.setRow] using hz), (s0).rowOther (by omega), (s1).rowOther (by omega), (s2).rowOther (by omega), (s3).rowOther (by omega), (s4).rowOther (by omega), (fun h => (h12 h).row hk), (fun h => (h13 h).row hk), (fun _ => by rw [show updV v 14 undef 12 = v 12 from rfl, ea]; exact PF.row hk hN _), (fun h => (h15 h).rowOther (by rw [← ea]; exact (Ne.symm (d12_13 (zdq hd 12 rfl) (zdq hd 13 rfl))))), d12_13, V.skip 14 rfl⟩
     · have e10 := V.at (zdq hd 10 rfl) rfl
       obtain ⟨gz, b, ea, hN, hk⟩ := (h13 (zdq hd 13 rfl)).out
       refine zsb 26 _ _ rfl b 512 (fl 64 ((drV p m F G).1.2)) ea e10 26 gz hk Try.size26 ?_
       exact hK _ undef _ rfl ⟨zr hB (Nat.le_trans hbase hN) _, (by simpa [World.setRow] using hz), (s0).rowOther (by omega), (s1).rowOther (by omega), (s2).rowOther (by omega), (s3).rowOther (by omega), (s4).rowOther (by omega), (fun h => (h12 h).row hk), (fun h => (h13 h).row hk), (fun h => (h14 h).rowOther (by rw [← ea]; exact (d12_13 (zdq hd 12 rfl) (zdq hd 13 rfl)))), (fun _ => by rw [show updV v 15 undef 13 = v 13 from rfl, ea]; exact PF.row hk hN _), d12_13, V.skip 15 rfl⟩
     · have e11 := V.at (zdq hd 11 rfl) rfl
       go_wp2_with fail
       exact hK _ (.int .i64 ((drV p m F G).2)) _ (by simp only [Act.put, pA, pB, pC, e11]) ⟨hB, hz, s0, s1, s2, s3, s4, h12, h13, h14, h15, d12_13, V.step 16 rfl⟩
   · intro L v W3 hL ⟨hB, hz, s0, s1, s2, s3, s4, h12, h13, h14, h15, d12_13, V⟩
     obtain ⟨k2_12, e12, hNk2_12, hk2_12⟩ := (h14 (hL 14 (by decide))).out
     obtain ⟨k2_13, e13, hNk2_13, hk2_13⟩ := (h15 (hL 15 (by decide))).out
     have n12_13 := d12_13 (hL 12 (by decide)) (hL 13 (by decide))
     have e0 := V.at (hL 0 (by decide)) rfl
     have e1 := V.at (hL 1 (by decide)) rfl
     have e2 := V.at (hL 2 (by decide)) rfl
     have e3 := V.at (hL 3 (by decide)) rfl
     have e4 := V.at (hL 4 (by decide)) rfl
     have e5 := V.at (hL 5 (by decide)) rfl
     have e6 := V.at (hL 6 (by decide)) rfl
     have e7 := V.at (hL 7 (by decide)) rfl
     have e8 := V.at (hL 8 (by decide)) rfl
     have e9 := V.at (hL 9 (by decide)) rfl
     have e10 := V.at (hL 10 (by decide)) rfl
     have e11 := V.at (hL 11 (by decide)) rfl
     have e16 := V.at (hL 16 (by decide)) rfl
     clear hL h12 h13 h14 h15 d12_13 V
     rw [e12, e13] at n12_13
     have mk2_12_13 : k2_12 ≠ k2_13 := fun h => n12_13 (by rw [h])
     clear n12_13
     simp only [Exit.then, e12, e13, e0, e1, e2, e3, e4, e5, e6, e7, e8, e9, e10, e11, e16]
     clear e12 e13 e0 e1 e2 e3 e4 e5 e6 e7 e8 e9 e10 e11 e16
     replace B0 := s0
     clear s0
     replace B1 := s1
     clear s1
     replace B2 := s2
     clear s2
     replace B3 := s3
     clear s3
     replace B4 := s4
     clear s4
     replace hb := hB
     clear hB
     have B5 := hk2_12
     clear hk2_12
     have zk2_12_0 : w.heap.size < k2_12 := by omega
     have zk2_12_1 : w.heap.size + 1 < k2_12 := by omega
     have zk2_12_2 : w.heap.size + 1 + 1 < k2_12 := by omega
     have zk2_12_3 : k1_12 < k2_12 := by omega
     have zk2_12_4 : k1_13 < k2_12 := by omega
     have B6 := hk2_13
     clear hk2_13
     have zk2_13_0 : w.heap.size < k2_13 := by omega
     have zk2_13_1 : w.heap.size + 1 < k2_13 := by omega
     have zk2_13_2 : w.heap.size + 1 + 1 < k2_13 := by omega
     have zk2_13_3 : k1_12 < k2_13 := by omega
     have zk2_13_4 : k1_13 < k2_13 := by omega
     clear hbase hz lt_B0 lt_B1 lt_B2 lt_B3 lt_B4
     go_upto_region 3 with (fail)
     go_wp2_with (first | (refine zla (.tmp 12) B5 Try.underlying26 Try.size26 ?_) | (refine zla (.tmp 9) B3 Try.underlying26 Try.size26 ?_) | (go_at_call 27; refine (eqSkew_same _ _ (fun _ _ _ _ => rfl) _).mono ?_; rintro e W4 ⟨rfl, hW4⟩; replace B0 := B0.zw hW4; replace B1 := B1.zw hW4; replace B2 := B2.zw hW4; replace B3 := B3.zw hW4; replace B4 := B4.zw hW4; replace B5 := B5.zw hW4; replace B6 := B6.zw hW4; replace hb := (hb).trans (hW4.mono (hb).size)) | (refine zlg rfl 26 (.tmp 13) rfl _ rfl 512 26 _ (B6) _ Try.underlying26 rfl Try.size26 ?_) | (refine zlg rfl 26 (.tmp 10) rfl _ rfl 512 26 _ (B4) _ Try.underlying26 rfl Try.size26 ?_) | (go_at_call 27; refine (eqSkew_same _ _ (fun _ _ _ _ => rfl) _).mono ?_; rintro e W5 ⟨rfl, hW5⟩; replace B0 := B0.zw hW5; replace B1 := B1.zw hW5; replace B2 := B2.zw hW5; replace B3 := B3.zw hW5; replace B4 := B4.zw hW5; replace B5 := B5.zw hW5; replace B6 := B6.zw hW5; replace hb := (hb).trans (hW5.mono (hb).size)))
     go_ret
     exact ⟨rfl, hb⟩
end Go.Proofs.Ytdlojnmggogbaaa
end
