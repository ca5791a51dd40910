/-
  What the rows of this claim rest on: arrays of bytes, walks of the functions, plain mathematics.
-/
import Derived.Test.YteloknnooebabaaZm9
import Derived.WalkKit
import Derived.WalkSpells
import Derived.WalkLawsBesides
import Derived.Lib.Hide
import Derived.Laws.Rows
import Derived.Laws.CopyOwn
import Derived.Deep.QuietTactic
import Derived.Deep.WholeRow
import Derived.Deep.Draws
import Derived.Deep.MidRow
import Derived.Deep.CutRange
import Derived.Deep.DeepCutAuto
import Derived.Deep.RegionHeld3
import Derived.BigQuiet
import Derived.BigRegion
import Derived.Test.YteloknnooebabaaRows
import Derived.Great.BuildSlice
import Derived.Laws.Tables
import Derived.Laws.StructEq
import Derived.ScopeJumps
import Derived.OwnWalk
import Derived.RangeFuncNested
import Derived.RangeFuncBound
import Derived.RangeFuncCalls
import Derived.RangeFuncLeaves
import Derived.Shelf.Abstract
import Derived.Shelf.RegionOpen
import Derived.OwnWalkIn
import Derived.TacticsInMore
import Derived.LoopNIn
import Derived.LoopIn
import Derived.Deep.CutBlock
import Derived.Maps.OwnOps
import Derived.DeepKeys4
import Derived.Carry
import Derived.Test.YteloknnooebabaaProg
import Derived.Handy
import Derived.Laws.MakeOwn
set_option maxRecDepth 100000
set_option maxHeartbeats 9000000
set_option linter.unusedVariables false
set_option linter.unusedSimpArgs false
namespace Go.Proofs.Yteloknnooebabaa
open Rg
theorem frN_add (p : Nat) (m x : Nat → Nat) (a : Nat) : ∀ b, frN p m (frN p m x a) b = frN p m x (a + b)
 | 0 => rfl
 | b + 1 => by rw [frN_s, frN_add p m x a b, ← Nat.add_assoc, frN_s]
end Go.Proofs.Yteloknnooebabaa
namespace Go.Proofs.Yteloknnooebabaa
open Rg
def dlA (p : Nat) (m : Nat → Nat) (d : Nat) (F G : Nat → Nat → Nat) : Nat → Nat :=
 frN p m (mmP p (F (skD F).toNat) (bzU p (G (skD G).toNat) m) m) ((d - (skD G).toNat % d) % d)
def dlT (p : Nat) (m : Nat → Nat) (d : Nat) (F G : Nat → Nat → Nat) : Nat → Nat → Nat := sng ((skD F).toNat - (skD G).toNat) (dlA p m d F G)
def dlF (p : Nat) (m : Nat → Nat) (d : Nat) (F G : Nat → Nat → Nat) : Nat → Nat → Nat := skA p F (tmP p m d G (dlT p m d F G)) (-1)
section
variable {p : Nat} {m : Nat → Nat} {d : Nat} (hp : p = 2 ∨ p = 3 ∨ p = 5 ∨ p = 7) (lm : ∀ k, k < 64 → m k < p) (hmon : mon m d) (hi : irr p (cut m) d) (h9 : d ≤ 9)
include hp lm hmon hi h9
theorem frN_back {z : Nat → Nat} (hz : rsd p m z) (k : Nat) : ∀ j, j < 64 → frN p m (frN p m z ((d - k % d) % d)) (k % d) j = z j := by
 have h0 : 0 ≤ deg m := by rw [hmon.1]; omega
 have hd1 := hi.1
 have hk := Nat.mod_lt k (show 0 < d by omega)
 rw [frN_add]
 by_cases h : k % d = 0
 · rw [h, Nat.sub_zero, Nat.mod_self, frN_z]; exact fun _ _ => rfl
 rw [Nat.mod_eq_of_lt (show d - k % d < d by omega), show d - k % d + k % d = d by omega]
 exact frN_d hp lm h0 (by rw [hmon.1]; omega) hi hz
theorem dl_step {F G : Nat → Nat → Nat} (hF : rsk p m F) (hG : rsk p m G) (hG0 : 0 ≤ skD G) (hFG : skD G ≤ skD F) :
 rsd p m (dlA p m d F G) ∧ 0 ≤ deg (dlA p m d F G) ∧ skD (dlT p m d F G) = skD F - skD G ∧ rsk p m (dlT p m d F G) ∧ rsk p m (dlF p m d F G) ∧ skD (dlF p m d F G) < skD F := by
 have h0 : 0 ≤ deg m := by rw [hmon.1]; omega
 have h9' : deg m ≤ 9 := by rw [hmon.1]; omega
 have hd1 := hi.1
 obtain ⟨n, hn⟩ : ∃ n : Nat, skD F = (n : Int) := ⟨(skD F).toNat, by omega⟩
 obtain ⟨k, hk⟩ : ∃ k : Nat, skD G = (k : Int) := ⟨(skD G).toNat, by omega⟩
 obtain ⟨n8, hFn⟩ := skN_row hn
 obtain ⟨k8, hGk⟩ := skN_row hk
 have rz : rsd p m (mmP p (F n) (bzU p (G k) m) m) := mm_rsd hp lm h0
 have hA : dlA p m d F G = frN p m (mmP p (F n) (bzU p (G k) m) m) ((d - k % d) % d) := by unfold dlA; rw [hn, hk]; rfl
 have rA : rsd p m (dlA p m d F G) := by rw [hA]; exact (frN_ok hp lm h0 h9' rz _).1
 have hq : ∀ j, j < 64 → mmP p (G k) (frN p m (dlA p m d F G) (k % d)) m j = F n j := by
  intro j hj
  rw [hA, mmP_congr2 hp lm h0 (frN_back hp lm hmon hi h9 rz k) j hj]
  have h1 := quo_spec hp lm hmon hi (hF n n8) (hG k k8) hGk j hj
  rw [← h1]
  exact rsd_eq hp lm h0 (mm_rsd hp lm h0) (mm_rsd hp lm h0) ((rs_mm hp lm h0).trans ((mcomm _ _).trans (rs_mm hp lm h0).symm)) j hj
 have hA0 : 0 ≤ deg (dlA p m d F G) := by
  by_cases h : 0 ≤ deg (dlA p m d F G)
  · exact h
  exfalso
  have hz2 : ∀ j, j < 64 → frN p m (dlA p m d F G) (k % d) j = 0 := by
   have e : (rs (frN p m (dlA p m d F G) (k % d)) : Res p (lz m)) = rs (fun _ => 0) := by
    rw [(frN_ok hp lm h0 h9' rA _).2]
    have e1 : (rs (dlA p m d F G) : Res p (lz m)) = o := by
     rw [← rs_zero]
     exact cl_congr (by
      funext j
      unfold lz cut
      by_cases hj : j < 64
      · rw [if_pos hj, if_pos hj, dgz_out (x := dlA p m d F G) (by omega) j hj]
      rw [if_neg hj, if_neg hj])
    rw [e1, rs_zero, fr_o (by omega)]
   exact rsd_eq hp lm h0 (frN_ok hp lm h0 h9' rA _).1 (zero_rsd (by omega) h0) e
  obtain ⟨j, hj, h2⟩ := deg_nonneg hFn
  have h3 : mmP p (G k) (frN p m (dlA p m d F G) (k % d)) m j = 0 := by
   have e := rsd_eq hp lm h0 (mm_rsd (a := G k) (b := frN p m (dlA p m d F G) (k % d)) hp lm h0) (mm_rsd (a := frN p m (dlA p m d F G) (k % d)) (b := G k) hp lm h0) (by rw [rs_mm hp lm h0, rs_mm hp lm h0, mcomm]) j hj
   rw [e]; exact mm_zero hp lm h0 hz2 j hj
  rw [← hq j hj, h3] at h2
  exact h2 rfl
 have hT : dlT p m d F G = sng (n - k) (dlA p m d F G) := by unfold dlT; rw [hn, hk]; rfl
 have hTd : skD (dlT p m d F G) = ((n - k : Nat) : Int) := by rw [hT]; exact sng_deg (by omega) hA0
 have hTr : ∀ r, rsd p m (dlT p m d F G r) := fun r => by
  rw [hT]; unfold sng
  by_cases h : r = n - k
  · subst h; rw [updR_same]; exact rA
  rw [updR_other h]; exact zero_rsd (by omega) h0
 have hP := fun r => tmP_rsd (d := d) (F := G) (G := dlT p m d F G) hp lm h0 r
 refine ⟨rA, hA0, by rw [hTd, hn, hk]; omega, fun r _ => hTr r, fun r hr => ?_, ?_⟩
 · show rsd p m (skA p F _ (-1) r)
   unfold skA; exact addK_rsd (by omega) h0 (hF r hr) (hP r)
 rw [hn]
 refine skD_lt fun r hr hr8 => ?_
 show ∀ j, j < 64 → skA p F _ (-1) r j = 0
 unfold skA
 by_cases h : r = n
 · subst h
   refine addK_self (by omega) (fun j hj => ?_) (fun j hj => (hP r).1 j hj)
   have h3 := tmP_top (p := p) (m := m) (d := d) (by omega) hk hTd j hj
   rw [show k + (r - k) = r by omega] at h3
   have h4 : dlT p m d F G (r - k) = dlA p m d F G := by rw [hT]; exact updR_same _ _ _
   rw [h3, h4]; exact hq j hj
 have hz := skN_spec F 8 r hr8 (by unfold skD at hn; omega)
 have h3 := tmP_hi (p := p) (m := m) (d := d) hk hTd (show k + (n - k) < r by omega)
 refine addK_self (by omega) (fun j hj => ?_) (fun j hj => (hP r).1 j hj)
 rw [h3]; exact (eqN_iff.1 hz j hj).symm
end
end Go.Proofs.Yteloknnooebabaa
namespace Go.Proofs.Yteloknnooebabaa
open Rg
section
variable {p : Nat} {m : Nat → Nat} {d : Nat} (hp : p = 2 ∨ p = 3 ∨ p = 5 ∨ p = 7) (lm : ∀ k, k < 64 → m k < p) (hmon : mon m d) (hi : irr p (cut m) d) (h9 : d ≤ 9)
include hp lm hmon hi h9
theorem GD_left {G : Nat → Nat → Nat} (hG : rsk p m G) (hG0 : 0 ≤ skD G) : GD p m (fun F => dlA p m d F G) (fun F => dlT p m d F G) (fun F => dlF p m d F G) (skD G) := ⟨hG0, fun F hF h => by
 obtain ⟨a, b, c, e, f, g⟩ := dl_step hp lm hmon hi h9 hF hG hG0 h
 exact ⟨rfl, a, b, e, f, g⟩⟩
end
def dql (p : Nat) (m : Nat → Nat) (d : Nat) (F G : Nat → Nat → Nat) : (Nat → Nat → Nat) × (Nat → Nat → Nat) := gdR p (fun F => dlT p m d F G) (fun F => dlF p m d F G) (skD G) 8 (fun _ _ => 0) F
attribute [irreducible] dql
end Go.Proofs.Yteloknnooebabaa
namespace Go.Proofs.Yteloknnooebabaa
open Go Go.RowKit
attribute [local irreducible] deg addK strP frI frN mmP pmP resP bzU bzD bzW skA skD
theorem kfrobN_any (p : Nat) (m x : Nat → Nat) (n : Nat) (w : World) (hpr : p = 2 ∨ p = 3 ∨ p = 5 ∨ p = 7) (lm : ∀ k, k < 64 → m k < p) (d : Nat) (hd : deg m = (d : Int)) (hd1 : 1 ≤ d) (hd9 : d ≤ 9) (hn : n ≤ 1000) (hx : rsd p m x) :
 Calls Try.prog 158 #[.agg (fdC (p : Int) m).toArray, .agg (zb 64 x), .int .i64 (-(n : Int))] w fun e w' => e = .returned (.agg (zb 64 (frN p m x ((d - n % d) % d)))) ∧ Below w.heap.size w w' := by
 have p0 : 0 < p := by omega
 have h0 : 0 ≤ deg m := by omega
 have h9 : deg m ≤ 9 := by omega
 obtain ⟨K, hK⟩ : ∃ K, K = n % d := ⟨_, rfl⟩
 have hKd : K < d := by rw [hK]; exact Nat.mod_lt _ (by omega)
 rw [← hK]
 obtain ⟨M, hM⟩ : ∃ M, M = (d - K) % d := ⟨_, rfl⟩
 have hMd : M < d := by rw [hM]; exact Nat.mod_lt _ (by omega)
 have tq1 : (n : Int).tmod (d : Int) = (K : Int) := by rw [Int.tmod_eq_emod_of_nonneg (by omega), hK]; rfl
 have tq3 : (-(n : Int)).tmod (d : Int) = -(K : Int) := by rw [Int.neg_tmod, tq1]
 have tq2 : (-(K : Int) + (d : Int)).tmod (d : Int) = (M : Int) := by
  rw [show (-(K : Int) + (d : Int)) = ((d - K : Nat) : Int) by omega, Int.tmod_eq_emod_of_nonneg (by omega), hM]; rfl
 have HM := Lib.hid hM
 rw [← hM]
 clear hM hK
 have HD := Lib.hid hd
 have hdz : ¬ (d : Int) = 0 := by omega
 have HZ := Lib.hid (frN_z p m x)
 have HS := Lib.hid (frN_s p m x)
 have HR := Lib.hid (fun j => (frN_ok hpr lm h0 h9 hx j).1)
 have HST := Lib.hid (fun (y : Nat → Nat) (hy : rsd p m y) W => stretched_any p y W (by omega) (by omega) (fun k hk => by have := hy.1 k hk; omega) (by have := hy.2; rcases hpr with rfl | rfl | rfl | rfl <;> omega))
 have HRO := Lib.hid (show ∀ y, rsd p m y → ∀ W, Calls Try.prog 121 #[.int .i64 (p : Int), .agg (zb 64 (strP p y)), .agg (zb 64 m)] W fun e w' => e = .returned (.agg (zb 64 (frI p m y))) ∧ Below W.heap.size W w' from fun y hy W => by
  have h := restOf_any p (strP p y) m W hpr (strP_lt p0 (by omega) hy.1) lm h0
  unfold frI; exact h)
 have HDG := Lib.hid (fun W => degree_any m W)
 rw [hd] at HDG
 clear hd h0 h9 hx
 go_enter Try.func158, Try.ntmps158
 go_upto_region 1 with (fail)
 rw [← z64]
 obtain ⟨W1, hwo⟩ : ∃ v : World, v = (((w.alloc (.cells (fdC (p : Int) m).toArray 96)).alloc (.cells (zb 64 (x)) 24)).alloc (.cells (zb 64 (fun _ => 0)) 24)) := ⟨_, rfl⟩
 have B0 : Row W1 (w.heap.size) 96 (fdC (p : Int) m).toArray := by subst hwo; have := (((Row.new w 96 (fdC (p : Int) m).toArray).alloc (.cells (zb 64 (x)) 24)).alloc (.cells (zb 64 (fun _ => 0)) 24)); simpa using this
 have B1 : Blk W1 (w.heap.size + 1) 64 24 (x) := by subst hwo; have := ((Blk.new (w.alloc (.cells (fdC (p : Int) m).toArray 96)) 64 24 (x)).alloc (.cells (zb 64 (fun _ => 0)) 24)); simpa using this
 have B2 : Blk W1 (w.heap.size + 1 + 1) 64 24 (fun _ => 0) := by subst hwo; have := (Blk.new ((w.alloc (.cells (fdC (p : Int) m).toArray 96)).alloc (.cells (zb 64 (x)) 24)) 64 24 (fun _ => 0)); simpa using this
 have hb : Below w.heap.size w W1 := by subst hwo; exact ((((Below.refl _ _).alloc (Nat.le_refl _) _).alloc (by simp) _).alloc (by simp; omega) _)
 rw [← hwo]
 clear hwo
 go_upto_region 2 with (first | (refine wpList_load_mid rfl 24 (.tmp 8) rfl _ 1 rfl (bl 64 m) _ (B0.fd) Try.underlying24 rfl (by rw [zl]; exact Try.size24) ?_) | (go_at_call 150; refine (HDG.out _).mono ?_; rintro e W2 ⟨rfl, hW2⟩; replace B0 := B0.zw hW2; replace B1 := B1.zw hW2; replace B2 := B2.zw hW2; replace hb := (hb).trans (hW2.mono (hb).size)))
 go_wp2_with fail
 go_loopw [18] (fun c wr => ∃ j : Nat, c = .int .i64 (j : Int) ∧ j ≤ M ∧ Below w.heap.size w wr ∧ Row wr (w.heap.size) 96 (fdC (p : Int) m).toArray ∧ Blk wr (w.heap.size + 1) 64 24 (frN p m x j) ∧ Blk wr (w.heap.size + 1 + 1) 64 24 (fun _ => 0)) (fun c _ => M - (intOf c).toNat)
 case atStart => exact ⟨0, rfl, Nat.zero_le _, hb, B0, by rw [HZ.out]; exact B1, B2⟩
 case round =>
  clear hb B0 B1 B2
  obtain ⟨j, rfl, hjM, hb, B0, B1, B2⟩ := hrel
  by_cases hj : j < M
  · have hjI : (j : Int) < (M : Int) := by omega
    have HR1 := Lib.hid (HR.out j)
    have HS1 := Lib.hid (HST.out _ HR1.out)
    have HS2 := Lib.hid (HRO.out _ HR1.out)
    go_upto_region 4 with (fail)
    have lt_B0 : (w.heap.size) < wr.heap.size := B0.lt
    have lt_B1 : (w.heap.size + 1) < wr.heap.size := B1.lt
    have lt_B2 : (w.heap.size + 1 + 1) < wr.heap.size := B2.lt
    have hbase : w.heap.size ≤ wr.heap.size := hb.size
    refine zq Try.mixed (by kernel_rfl) (by kernel_rfl) (fun v => by (simp only [frL, Act.put, pA, pB, pC, Nat.reduceAdd, Nat.zero_add]; exact rfl))
     (fun L v W3 => Below w.heap.size w W3 ∧ Kx [w.heap.size + 1] wr W3 ∧ (∃ g, Blk W3 (w.heap.size + 1) 64 24 (g)) ∧ (L 9 = false → Blk W3 (w.heap.size + 1) 64 24 (frN p m x j)) ∧ (L 9 = true → Blk W3 (w.heap.size + 1) 64 24 (frI p m (frN p m x j))) ∧ VF L v [some (.pointer (some ⟨w.heap.size, 0, none⟩)), some (.int .i64 (p : Int)), some (.agg (zb 64 (frN p m x j))), some (.pointer (some ⟨w.heap.size, 0, none⟩)), some (.int .i64 (p : Int)), some (.agg (zb 64 (strP p (frN p m x j)))), some (.pointer (some ⟨w.heap.size, 1, none⟩)), some (.agg (zb 64 (m))), some (.agg (zb 64 (frI p m (frN p m x j)))), none]) ?_ ?_ ?_
    · intro v hv0
      exact ⟨hb.drew, Kx.start _ _, ⟨_, B1.drew⟩, (fun _ => B1.drew), (fun h => by cases h), VF.start⟩
    · refine (.cons rfl ?_ (.cons rfl ?_ (.cons rfl ?_ (.cons rfl ?_ (.cons rfl ?_ (.cons rfl ?_ (.cons rfl ?_ (.cons rfl ?_ (.cons rfl ?_ (.cons rfl ?_ (.nil _)))))))))))
      all_goals intro L v W3 hd hn ⟨hB, hX, x1, q1, n1, V⟩ K hK
      · go_wp2_with fail
        exact hK _ (.pointer (some ⟨w.heap.size, 0, none⟩)) _ (by simp only [Act.put, pA, pB, pC ]) ⟨hB, hX, x1, q1, n1, V.step 0 rfl⟩
      · have e0 := V.at (zdq hd 0 rfl) rfl
        have cc := (B0.kx hX (by simp <;> omega)).cell (i := 0) (v := .int .i64 (p : Int)) (fdC_at (p : Int) m)
        go_wp2_with fail
        exact hK _ (.int .i64 (p : Int)) _ (by simp only [Act.put, pA, pB, pC, e0]) ⟨hB, hX, x1, q1, n1, V.step 1 rfl⟩
      · have s1 := q1 (by
         cases hL : L 9 with
         | false => rfl
         | true => exact absurd rfl (hn 9 _ rfl hL ⟨2, .phase⟩ (by simp) rfl))
        refine zlc s1 Try.underlying24 Try.size24 ?_
        exact hK _ _ _ rfl ⟨hB, hX, x1, q1, n1, V.step 2 rfl⟩
      · go_wp2_with fail
        exact hK _ (.pointer (some ⟨w.heap.size, 0, none⟩)) _ (by simp only [Act.put, pA, pB, pC ]) ⟨hB, hX, x1, q1, n1, V.step 3 rfl⟩
      · have e3 := V.at (zdq hd 3 rfl) rfl
        have cc := (B0.kx hX (by simp <;> omega)).cell (i := 0) (v := .int .i64 (p : Int)) (fdC_at (p : Int) m)
        go_wp2_with fail
        exact hK _ (.int .i64 (p : Int)) _ (by simp only [Act.put, pA, pB, pC, e3]) ⟨hB, hX, x1, q1, n1, V.step 4 rfl⟩
      · have e2 := V.at (zdq hd 2 rfl) rfl
        have e4 := V.at (zdq hd 4 rfl) rfl
        go_wp2_with (go_at_call 223; refine (HS1.out _).mono ?_; rintro e wy ⟨rfl, hy⟩)
        exact hK _ (.agg (zb 64 (strP p (frN p m x j)))) _ (by simp only [Act.put, pA, pB, pC, e2, e4]) ⟨hB.trans (hy.mono hB.size), hX.below hy, (let ⟨g, h⟩ := x1; ⟨g, h.zw hy⟩), (fun h => (q1 h).below hy (q1 h).lt), (fun h => (n1 h).below hy (n1 h).lt), V.step 5 rfl⟩
      · go_wp2_with fail
        exact hK _ (.pointer (some ⟨w.heap.size, 1, none⟩)) _ (by simp only [Act.put, pA, pB, pC ]) ⟨hB, hX, x1, q1, n1, V.step 6 rfl⟩
      · have e6 := V.at (zdq hd 6 rfl) rfl
        refine wp_load_mid 24 _ rfl _ 1 e6 _ _ ((B0.kx hX (by simp <;> omega)).fd) Try.underlying24 rfl (by rw [zl]; exact Try.size24) ?_
        exact hK _ _ _ rfl ⟨hB, hX, x1, q1, n1, V.step 7 rfl⟩
      · have e1 := V.at (zdq hd 1 rfl) rfl
        have e5 := V.at (zdq hd 5 rfl) rfl
        have e7 := V.at (zdq hd 7 rfl) rfl
        go_wp2_with (go_at_call 121; refine (HS2.out _).mono ?_; rintro e wy ⟨rfl, hy⟩)
        exact hK _ (.agg (zb 64 (frI p m (frN p m x j)))) _ (by simp only [Act.put, pA, pB, pC, e1, e5, e7]) ⟨hB.trans (hy.mono hB.size), hX.below hy, (let ⟨g, h⟩ := x1; ⟨g, h.zw hy⟩), (fun h => (q1 h).below hy (q1 h).lt), (fun h => (n1 h).below hy (n1 h).lt), V.step 8 rfl⟩
      have e8 := V.at (zdq hd 8 rfl) rfl
      obtain ⟨gz, hk⟩ := x1
      refine zsb 24 _ _ rfl _ 64 (frI p m (frN p m x j)) rfl e8 24 gz hk Try.size24 ?_
      exact hK _ undef _ rfl ⟨zr hB (by omega) _, hX.row (by simp) _, ⟨_, hk.row _⟩, (fun h => absurd h (by simp [setL])), (fun _ => hk.row _), V.skip 9 rfl⟩
    intro L v W3 hL ⟨hB, hX, x1, q1, n1, V⟩
    have r1 := n1 (hL 9 (by decide))
    have e0 := V.at (hL 0 (by decide)) rfl
    have e1 := V.at (hL 1 (by decide)) rfl
    have e2 := V.at (hL 2 (by decide)) rfl
    have e3 := V.at (hL 3 (by decide)) rfl
    have e4 := V.at (hL 4 (by decide)) rfl
    have e5 := V.at (hL 5 (by decide)) rfl
    have e6 := V.at (hL 6 (by decide)) rfl
    have e7 := V.at (hL 7 (by decide)) rfl
    have e8 := V.at (hL 8 (by decide)) rfl
    clear hL x1 q1 n1 V
    replace B0 := B0.kx hX (by simp <;> omega)
    replace B2 := B2.kx hX (by simp <;> omega)
    clear hX
    simp only [Exit.then, e0, e1, e2, e3, e4, e5, e6, e7, e8]
    clear e0 e1 e2 e3 e4 e5 e6 e7 e8
    replace B1 := r1
    clear r1
    replace hb := hB
    clear hB
    clear hbase lt_B0 lt_B1 lt_B2
    go_wp2_with fail
    go_roundw
    case rel => exact ⟨j + 1, by go_num, by omega, hb, B0, by rw [HS.out]; exact B1, B2⟩
    case measure => simp [intOf] <;> omega
  have hjI : ¬ (j : Int) < (M : Int) := by omega
  obtain rfl : j = M := by omega
  go_upto_region 6 with (fail)
  go_wp2_with (first | rw [← z64] | (refine zla (.tmp 4) B1 Try.underlying24 Try.size24 ?_) | (refine zsr (.tmp 6) (.tmp 30) (frN p m x j) B2 Try.size24 ?_; try simp only [Act.put]))
  obtain ⟨W3, hwo, hzQ⟩ : ∃ v : World, v = (wr.setRow (w.heap.size + 1 + 1) (zb 64 (frN p m x j))) ∧ Row v (w.heap.size) 96 (fdC (p : Int) m).toArray ∧ Blk v (w.heap.size + 1) 64 24 (frN p m x j) ∧ Blk v (w.heap.size + 1 + 1) 64 24 (frN p m x j) ∧ Below w.heap.size w v := ⟨_, rfl, (B0.rowOther (by omega)), (B1.rowOther (by omega)), (B2.row (frN p m x j)), (zr hb (by omega) _)⟩
  rw [← hwo]
  clear hwo B0 B1 B2 hb
  obtain ⟨B0, B1, B2, hb⟩ := hzQ
  try simp only [Act.put, pA, pB, pC]
  refine bodyPost_ret (zrb rfl _ _ _ 64 24 5 _ rfl B2 Try.underlying24 Try.size24) rfl ⟨rfl, hb⟩
theorem leftStep_any (p : Nat) (m : Nat → Nat) (F G : Nat → Nat → Nat) (w : World) (hpr : p = 2 ∨ p = 3 ∨ p = 5 ∨ p = 7) (lm : ∀ k, k < 64 → m k < p) (d : Nat) (hmon : mon m d) (hi : irr p (cut m) d) (hd9 : d ≤ 9) (hF : rsk p m F) (hG : rsk p m G) (hG0 : 0 ≤ skD G) (hFG : skD G ≤ skD F) :
 Calls Try.prog 106 #[.agg (zb 512 (fl 64 F)), .agg (fdC (p : Int) m).toArray, .agg (zb 512 (fl 64 G))] w fun e w' => e = .returned (.tuple #[.agg (zb 512 (fl 64 (dlT p m d F G))), .agg (zb 512 (fl 64 (tmP p m d G (dlT p m d F G))))]) ∧ Below w.heap.size w w' := by
 have p0 : 0 < p := by omega
 have hd := hmon.1
 have hd1 := hi.1
 have h0 : 0 ≤ deg m := by omega
 have h9 : deg m ≤ 9 := by omega
 obtain ⟨s1, s2, s3, s4, s5, s6⟩ := dl_step hpr lm hmon hi hd9 hF hG hG0 hFG
 obtain ⟨n, hn⟩ : ∃ n : Nat, skD F = (n : Int) := ⟨(skD F).toNat, by omega⟩
 obtain ⟨k, hk⟩ : ∃ k : Nat, skD G = (k : Int) := ⟨(skD G).toNat, by omega⟩
 obtain ⟨n8, fn⟩ := skN_row hn
 obtain ⟨k8, gk⟩ := skN_row hk
 obtain ⟨q, hq⟩ : ∃ q : Nat, n - k = q := ⟨_, rfl⟩
 have hqI : (n : Int) - (k : Int) = (q : Int) := by omega
 have q8 : q < 8 := by omega
 have HT := Lib.hid (show updR (fun _ _ => 0) q (frN p m (mmP p (F n) (bzU p (G k) m) m) ((d - k % d) % d)) = dlT p m d F G by unfold dlT dlA sng; rw [hn, hk, ← hq]; rfl)
 have HLF := Lib.hid (fun W => leading_any F n hn W)
 have HLG := Lib.hid (fun W => leading_any G k hk W)
 have HDF := Lib.hid (show ∀ W, Calls Try.prog 95 #[.agg (zb 512 (fl 64 F))] W fun e w' => e = .returned (.int .i64 (n : Int)) ∧ Below W.heap.size W w' from fun W => by have := skDegree_any F W; rwa [hn] at this)
 have HDG := Lib.hid (show ∀ W, Calls Try.prog 95 #[.agg (zb 512 (fl 64 G))] W fun e w' => e = .returned (.int .i64 (k : Int)) ∧ Below W.heap.size W w' from fun W => by have := skDegree_any G W; rwa [hk] at this)
 have HQ := Lib.hid (fun W => quotient_any p m (F n) (G k) W hpr lm h0 (hF n n8).1 (hG k k8).1)
 have HFB := Lib.hid (fun W => kfrobN_any p m (mmP p (F n) (bzU p (G k) m) m) k W hpr lm d hd hd1 hd9 (by omega) (mm_rsd hpr lm h0))
 have HTM := Lib.hid (show ∀ W, Calls Try.prog 96 #[.agg (zb 512 (fl 64 G)), .agg (fdC (p : Int) m).toArray, .agg (zb 512 (fl 64 (updR (fun _ _ => 0) q (frN p m (mmP p (F n) (bzU p (G k) m) m) ((d - k % d) % d)))))] W fun e w' => e = .returned (.agg (zb 512 (fl 64 (tmP p m d G (dlT p m d F G))))) ∧ Below W.heap.size W w' from fun W => by
  rw [HT.out]; exact skTimes_any p m G _ W hpr lm d hd hd1 hd9 (fun i hi8 => (hG i hi8).1) (fun i hi8 => s4 i hi8) (by omega))
 clear s1 s2 s3 s4 s5 s6 hF hG hG0 hFG hn hk hq fn gk hd hd1 h0 h9 hmon hi
 go_enter Try.func106, Try.ntmps106
 go_upto_region 1 with (fail)
 rw [← zero512]
 obtain ⟨W1, hwo⟩ : ∃ v : World, v = (((((w.alloc (.cells (zb 512 (fl 64 F)) 26)).alloc (.cells (fdC (p : Int) m).toArray 96)).alloc (.cells (zb 512 (fl 64 G)) 26)).alloc (.cells (zb 512 (fl 64 (fun _ _ => 0))) 26)).alloc (.cells (zb 512 (fl 64 (fun _ _ => 0))) 26)) := ⟨_, rfl⟩
 have B0 : Blk W1 (w.heap.size) 512 26 (fl 64 F) := by subst hwo; have := (((((Blk.new w 512 26 (fl 64 F)).alloc (.cells (fdC (p : Int) m).toArray 96)).alloc (.cells (zb 512 (fl 64 G)) 26)).alloc (.cells (zb 512 (fl 64 (fun _ _ => 0))) 26)).alloc (.cells (zb 512 (fl 64 (fun _ _ => 0))) 26)); simpa using this
 have B1 : Row W1 (w.heap.size + 1) 96 (fdC (p : Int) m).toArray := by subst hwo; have := ((((Row.new (w.alloc (.cells (zb 512 (fl 64 F)) 26)) 96 (fdC (p : Int) m).toArray).alloc (.cells (zb 512 (fl 64 G)) 26)).alloc (.cells (zb 512 (fl 64 (fun _ _ => 0))) 26)).alloc (.cells (zb 512 (fl 64 (fun _ _ => 0))) 26)); simpa using this
 have B2 : Blk W1 (w.heap.size + 1 + 1) 512 26 (fl 64 G) := by subst hwo; have := (((Blk.new ((w.alloc (.cells (zb 512 (fl 64 F)) 26)).alloc (.cells (fdC (p : Int) m).toArray 96)) 512 26 (fl 64 G)).alloc (.cells (zb 512 (fl 64 (fun _ _ => 0))) 26)).alloc (.cells (zb 512 (fl 64 (fun _ _ => 0))) 26)); simpa using this
 have B3 : Blk W1 (w.heap.size + 1 + 1 + 1) 512 26 (fl 64 (fun _ _ => 0)) := by subst hwo; have := ((Blk.new (((w.alloc (.cells (zb 512 (fl 64 F)) 26)).alloc (.cells (fdC (p : Int) m).toArray 96)).alloc (.cells (zb 512 (fl 64 G)) 26)) 512 26 (fl 64 (fun _ _ => 0))).alloc (.cells (zb 512 (fl 64 (fun _ _ => 0))) 26)); simpa using this
 have B4 : Blk W1 (w.heap.size + 1 + 1 + 1 + 1) 512 26 (fl 64 (fun _ _ => 0)) := by subst hwo; have := (Blk.new ((((w.alloc (.cells (zb 512 (fl 64 F)) 26)).alloc (.cells (fdC (p : Int) m).toArray 96)).alloc (.cells (zb 512 (fl 64 G)) 26)).alloc (.cells (zb 512 (fl 64 (fun _ _ => 0))) 26)) 512 26 (fl 64 (fun _ _ => 0))); simpa using this
 have hb : Below w.heap.size w W1 := by subst hwo; exact ((((((Below.refl _ _).alloc (Nat.le_refl _) _).alloc (by simp) _).alloc (by simp; omega) _).alloc (by simp; omega) _).alloc (by simp; omega) _)
 rw [← hwo]
 clear hwo
 go_upto_region 2 with (first | rw [← z64] | rw [← zero512])
 have lt_B0 := B0.lt
 have lt_B1 := B1.lt
 have lt_B2 := B2.lt
 have lt_B3 := B3.lt
 have lt_B4 := B4.lt
 have lhb := hb.size
 obtain ⟨W2, hwo, hzQ⟩ : ∃ v : World, v = (W1.alloc (.cells (zb 512 (fl 64 (fun _ _ => 0))) 26)) ∧ Blk v (w.heap.size) 512 26 (fl 64 F) ∧ Row v (w.heap.size + 1) 96 (fdC (p : Int) m).toArray ∧ Blk v (w.heap.size + 1 + 1) 512 26 (fl 64 G) ∧ Blk v (w.heap.size + 1 + 1 + 1) 512 26 (fl 64 (fun _ _ => 0)) ∧ Blk v (w.heap.size + 1 + 1 + 1 + 1) 512 26 (fl 64 (fun _ _ => 0)) ∧ Blk v (W1.heap.size) 512 26 (fl 64 (fun _ _ => 0)) ∧ Below w.heap.size w v := ⟨_, rfl, (B0.alloc (.cells (zb 512 (fl 64 (fun _ _ => 0))) 26)), (B1.alloc (.cells (zb 512 (fl 64 (fun _ _ => 0))) 26)), (B2.alloc (.cells (zb 512 (fl 64 (fun _ _ => 0))) 26)), (B3.alloc (.cells (zb 512 (fl 64 (fun _ _ => 0))) 26)), (B4.alloc (.cells (zb 512 (fl 64 (fun _ _ => 0))) 26)), (Blk.new W1 512 26 (fl 64 (fun _ _ => 0))), (hb.alloc (by have := hb.size; simp; omega) (.cells (zb 512 (fl 64 (fun _ _ => 0))) 26))⟩
 rw [← hwo]
 clear hwo B0 B1 B2 B3 B4 hb
 obtain ⟨B0, B1, B2, B3, B4, B5, hb⟩ := hzQ
 obtain ⟨N1, hNN⟩ : ∃ n : Nat, n = W1.heap.size := ⟨_, rfl⟩
 rw [← hNN] at lt_B0 lt_B1 lt_B2 lt_B3 lt_B4 lhb B5 ⊢
 clear hNN
 have zN1_0 := lt_B0
 have zN1_1 := lt_B1
 have zN1_2 := lt_B2
 have zN1_3 := lt_B3
 have zN1_4 := lt_B4
 have zN1 := lhb
 clear lt_B0 lt_B1 lt_B2 lt_B3 lt_B4 lhb
 try simp only [Act.put, pA, pB, pC]
 go_upto_region 3 with (first | (refine zla (.tmp 5) B2 Try.underlying26 Try.size26 ?_) | (go_at_call 95; refine (HDG.out _).mono ?_; rintro e W3 ⟨rfl, hW3⟩; replace B0 := B0.zw hW3; replace B1 := B1.zw hW3; replace B2 := B2.zw hW3; replace B3 := B3.zw hW3; replace B4 := B4.zw hW3; replace B5 := B5.zw hW3; replace hb := (hb).trans (hW3.mono (hb).size)))
 have lt_B0 : (w.heap.size) < W3.heap.size := B0.lt
 have lt_B1 : (w.heap.size + 1) < W3.heap.size := B1.lt
 have lt_B2 : (w.heap.size + 1 + 1) < W3.heap.size := B2.lt
 have lt_B3 : (w.heap.size + 1 + 1 + 1) < W3.heap.size := B3.lt
 have lt_B4 : (w.heap.size + 1 + 1 + 1 + 1) < W3.heap.size := B4.lt
 have lt_B5 : (N1) < W3.heap.size := B5.lt
 have hbase : w.heap.size ≤ W3.heap.size := hb.size
 refine zq Try.mixed (by kernel_rfl) (by kernel_rfl) (fun v => by (simp only [frL, Act.put, pA, pB, pC, Nat.reduceAdd, Nat.zero_add]; exact rfl))
  (fun L v W4 => Below w.heap.size w W4 ∧ Kx [N1] W3 W4 ∧ (∃ g, Blk W4 (N1) 512 26 (g)) ∧ (L 15 = false → Blk W4 (N1) 512 26 (fl 64 (fun _ _ => 0))) ∧ (L 15 = true → Blk W4 (N1) 512 26 (fl 64 (updR (fun _ _ => 0) q (frN p m (mmP p (F n) (bzU p (G k) m) m) ((d - k % d) % d))))) ∧ VF L v [some (.agg (zb 512 (fl 64 F))), some (.int .i64 (n : Int)), some (.int .i64 (k : Int)), some (.int .i64 (q : Int)), some (.agg (fdC (p : Int) m).toArray), some (.agg (fdC (p : Int) m).toArray), some (.agg (zb 512 (fl 64 F))), some (.agg (zb 64 (F n))), some (.agg (zb 512 (fl 64 G))), some (.agg (zb 64 (G k))), some (.agg (zb 64 (mmP p (F n) (bzU p (G k) m) m))), some (.int .i64 (k : Int)), some (.int .i64 (-(k : Int))), some (.agg (zb 64 (frN p m (mmP p (F n) (bzU p (G k) m) m) ((d - k % d) % d)))), some (.pointer (some ⟨N1, q * 64, none⟩)), none]) ?_ ?_ ?_
 · intro v hv0
   exact ⟨hb.drew, Kx.start _ _, ⟨_, B5.drew⟩, (fun _ => B5.drew), (fun h => by cases h), VF.start⟩
 · refine (.cons rfl ?_ (.cons rfl ?_ (.cons rfl ?_ (.cons rfl ?_ (.cons rfl ?_ (.cons rfl ?_ (.cons rfl ?_ (.cons rfl ?_ (.cons rfl ?_ (.cons rfl ?_ (.cons rfl ?_ (.cons rfl ?_ (.cons rfl ?_ (.cons rfl ?_ (.cons rfl ?_ (.cons rfl ?_ (.nil _)))))))))))))))))
   all_goals intro L v W4 hd hn ⟨hB, hX, x5, q5, n5, V⟩ K hK
   · refine wp_load_any 26 _ rfl _ rfl 512 26 _ (B0.kx hX (by simp <;> omega)) _ Try.underlying26 rfl Try.size26 ?_
     exact hK _ _ _ rfl ⟨hB, hX, x5, q5, n5, V.step 0 rfl⟩
   · have e0 := V.at (zdq hd 0 rfl) rfl
     go_wp2_with (go_at_call 95; refine (HDF.out _).mono ?_; rintro e wy ⟨rfl, hy⟩)
     exact hK _ (.int .i64 (n : Int)) _ (by simp only [Act.put, pA, pB, pC, e0]) ⟨hB.trans (hy.mono hB.size), hX.below hy, (let ⟨g, h⟩ := x5; ⟨g, h.zw hy⟩), (fun h => (q5 h).below hy (q5 h).lt), (fun h => (n5 h).below hy (n5 h).lt), V.step 1 rfl⟩
   · go_wp2_with fail
     exact hK _ (.int .i64 (k : Int)) _ (by simp only [Act.put, pA, pB, pC ]) ⟨hB, hX, x5, q5, n5, V.step 2 rfl⟩
   · have e1 := V.at (zdq hd 1 rfl) rfl
     have e2 := V.at (zdq hd 2 rfl) rfl
     go_wp2_with fail
     exact hK _ (.int .i64 (q : Int)) _ (by simp only [Act.put, pA, pB, pC, e1, e2]) ⟨hB, hX, x5, q5, n5, V.step 3 rfl⟩
   · refine wp_load_rowv 96 _ rfl _ rfl 96 _ (B1.kx hX (by simp <;> omega)) _ Try.underlying96 rfl 65 Try.size96 (by simp [fdC_len]) ?_
     exact hK _ _ _ rfl ⟨hB, hX, x5, q5, n5, V.step 4 rfl⟩
   · refine wp_load_rowv 96 _ rfl _ rfl 96 _ (B1.kx hX (by simp <;> omega)) _ Try.underlying96 rfl 65 Try.size96 (by simp [fdC_len]) ?_
     exact hK _ _ _ rfl ⟨hB, hX, x5, q5, n5, V.step 5 rfl⟩
   · refine wp_load_any 26 _ rfl _ rfl 512 26 _ (B0.kx hX (by simp <;> omega)) _ Try.underlying26 rfl Try.size26 ?_
     exact hK _ _ _ rfl ⟨hB, hX, x5, q5, n5, V.step 6 rfl⟩
   · have e6 := V.at (zdq hd 6 rfl) rfl
     go_wp2_with (go_at_call 196; refine (HLF.out _).mono ?_; rintro e wy ⟨rfl, hy⟩)
     exact hK _ (.agg (zb 64 (F n))) _ (by simp only [Act.put, pA, pB, pC, e6]) ⟨hB.trans (hy.mono hB.size), hX.below hy, (let ⟨g, h⟩ := x5; ⟨g, h.zw hy⟩), (fun h => (q5 h).below hy (q5 h).lt), (fun h => (n5 h).below hy (n5 h).lt), V.step 7 rfl⟩
   · refine wp_load_any 26 _ rfl _ rfl 512 26 _ (B2.kx hX (by simp <;> omega)) _ Try.underlying26 rfl Try.size26 ?_
     exact hK _ _ _ rfl ⟨hB, hX, x5, q5, n5, V.step 8 rfl⟩
   · have e8 := V.at (zdq hd 8 rfl) rfl
     go_wp2_with (go_at_call 196; refine (HLG.out _).mono ?_; rintro e wy ⟨rfl, hy⟩)
     exact hK _ (.agg (zb 64 (G k))) _ (by simp only [Act.put, pA, pB, pC, e8]) ⟨hB.trans (hy.mono hB.size), hX.below hy, (let ⟨g, h⟩ := x5; ⟨g, h.zw hy⟩), (fun h => (q5 h).below hy (q5 h).lt), (fun h => (n5 h).below hy (n5 h).lt), V.step 9 rfl⟩
   · have e5 := V.at (zdq hd 5 rfl) rfl
     have e7 := V.at (zdq hd 7 rfl) rfl
     have e9 := V.at (zdq hd 9 rfl) rfl
     go_wp2_with (go_at_call 156; refine (HQ.out _).mono ?_; rintro e wy ⟨rfl, hy⟩)
     exact hK _ (.agg (zb 64 (mmP p (F n) (bzU p (G k) m) m))) _ (by simp only [Act.put, pA, pB, pC, e5, e7, e9]) ⟨hB.trans (hy.mono hB.size), hX.below hy, (let ⟨g, h⟩ := x5; ⟨g, h.zw hy⟩), (fun h => (q5 h).below hy (q5 h).lt), (fun h => (n5 h).below hy (n5 h).lt), V.step 10 rfl⟩
   · go_wp2_with fail
     exact hK _ (.int .i64 (k : Int)) _ (by simp only [Act.put, pA, pB, pC ]) ⟨hB, hX, x5, q5, n5, V.step 11 rfl⟩
   · have e11 := V.at (zdq hd 11 rfl) rfl
     go_wp2_with fail
     exact hK _ (.int .i64 (-(k : Int))) _ (by simp only [Act.put, pA, pB, pC, e11]) ⟨hB, hX, x5, q5, n5, V.step 12 rfl⟩
   · have e4 := V.at (zdq hd 4 rfl) rfl
     have e10 := V.at (zdq hd 10 rfl) rfl
     have e12 := V.at (zdq hd 12 rfl) rfl
     go_wp2_with (go_at_call 158; refine (HFB.out _).mono ?_; rintro e wy ⟨rfl, hy⟩)
     exact hK _ (.agg (zb 64 (frN p m (mmP p (F n) (bzU p (G k) m) m) ((d - k % d) % d)))) _ (by simp only [Act.put, pA, pB, pC, e4, e10, e12]) ⟨hB.trans (hy.mono hB.size), hX.below hy, (let ⟨g, h⟩ := x5; ⟨g, h.zw hy⟩), (fun h => (q5 h).below hy (q5 h).lt), (fun h => (n5 h).below hy (n5 h).lt), V.step 13 rfl⟩
   · have e3 := V.at (zdq hd 3 rfl) rfl
     go_wp2_with fail
     exact hK _ (.pointer (some ⟨N1, q * 64, none⟩)) _ (by simp only [Act.put, pA, pB, pC, e3]) ⟨hB, hX, x5, q5, n5, V.step 14 rfl⟩
   have e14 := V.at (zdq hd 14 rfl) rfl
   have e13 := V.at (zdq hd 13 rfl) rfl
   obtain ⟨gz, hk, hg⟩ : ∃ gz, Blk W4 (N1) 512 26 (fl 64 gz) ∧ updR gz (q) (frN p m (mmP p (F n) (bzU p (G k) m) m) ((d - k % d) % d)) = updR (fun _ _ => 0) (q) (frN p m (mmP p (F n) (bzU p (G k) m) m) ((d - k % d) % d)) := by
    cases hL : L 15 with
    | false => exact ⟨_, q5 hL, rfl⟩
    | true => exact ⟨_, n5 hL, updR_twice _ _ _⟩
   refine wp_store_sk 24 _ _ rfl _ (q) (frN p m (mmP p (F n) (bzU p (G k) m) m) ((d - k % d) % d)) e14 e13 26 gz hk (by omega) Try.size24 ?_
   rw [hg]
   exact hK _ undef _ rfl ⟨zr hB (by omega) _, hX.row (by simp) _, ⟨_, hk.row _⟩, (fun h => absurd h (by simp [setL])), (fun _ => hk.row _), V.skip 15 rfl⟩
 intro L v W4 hL ⟨hB, hX, x5, q5, n5, V⟩
 have r5 := n5 (hL 15 (by decide))
 have e0 := V.at (hL 0 (by decide)) rfl
 have e1 := V.at (hL 1 (by decide)) rfl
 have e2 := V.at (hL 2 (by decide)) rfl
 have e3 := V.at (hL 3 (by decide)) rfl
 have e4 := V.at (hL 4 (by decide)) rfl
 have e5 := V.at (hL 5 (by decide)) rfl
 have e6 := V.at (hL 6 (by decide)) rfl
 have e7 := V.at (hL 7 (by decide)) rfl
 have e8 := V.at (hL 8 (by decide)) rfl
 have e9 := V.at (hL 9 (by decide)) rfl
 have e10 := V.at (hL 10 (by decide)) rfl
 have e11 := V.at (hL 11 (by decide)) rfl
 have e12 := V.at (hL 12 (by decide)) rfl
 have e13 := V.at (hL 13 (by decide)) rfl
 have e14 := V.at (hL 14 (by decide)) rfl
 clear hL x5 q5 n5 V
 replace B0 := B0.kx hX (by simp <;> omega)
 replace B1 := B1.kx hX (by simp <;> omega)
 replace B2 := B2.kx hX (by simp <;> omega)
 replace B3 := B3.kx hX (by simp <;> omega)
 replace B4 := B4.kx hX (by simp <;> omega)
 clear hX
 simp only [Exit.then, e0, e1, e2, e3, e4, e5, e6, e7, e8, e9, e10, e11, e12, e13, e14]
 clear e0 e1 e2 e3 e4 e5 e6 e7 e8 e9 e10 e11 e12 e13 e14
 replace B5 := r5
 clear r5
 replace hb := hB
 clear hB
 clear hbase lt_B0 lt_B1 lt_B2 lt_B3 lt_B4 lt_B5
 go_upto_region 4 with (fail)
 have lt_B0 : (w.heap.size) < W4.heap.size := B0.lt
 have lt_B1 : (w.heap.size + 1) < W4.heap.size := B1.lt
 have lt_B2 : (w.heap.size + 1 + 1) < W4.heap.size := B2.lt
 have lt_B3 : (w.heap.size + 1 + 1 + 1) < W4.heap.size := B3.lt
 have lt_B4 : (w.heap.size + 1 + 1 + 1 + 1) < W4.heap.size := B4.lt
 have lt_B5 : (N1) < W4.heap.size := B5.lt
 have hbase : w.heap.size ≤ W4.heap.size := hb.size
 refine zq Try.mixed (by kernel_rfl) (by kernel_rfl) (fun v => by (simp only [frL, Act.put, pA, pB, pC, Nat.reduceAdd, Nat.zero_add]; exact rfl))
  (fun L v W5 => Below w.heap.size w W5 ∧ Kx [w.heap.size + 1 + 1 + 1, w.heap.size + 1 + 1 + 1 + 1] W4 W5 ∧ (∃ g, Blk W5 (w.heap.size + 1 + 1 + 1) 512 26 (g)) ∧ (L 5 = false → Blk W5 (w.heap.size + 1 + 1 + 1) 512 26 (fl 64 (fun _ _ => 0))) ∧ (L 5 = true → Blk W5 (w.heap.size + 1 + 1 + 1) 512 26 (fl 64 (updR (fun _ _ => 0) q (frN p m (mmP p (F n) (bzU p (G k) m) m) ((d - k % d) % d))))) ∧ (∃ g, Blk W5 (w.heap.size + 1 + 1 + 1 + 1) 512 26 (g)) ∧ (L 6 = false → Blk W5 (w.heap.size + 1 + 1 + 1 + 1) 512 26 (fl 64 (fun _ _ => 0))) ∧ (L 6 = true → Blk W5 (w.heap.size + 1 + 1 + 1 + 1) 512 26 (fl 64 (tmP p m d G (dlT p m d F G)))) ∧ VF L v [some (.agg (zb 512 (fl 64 (updR (fun _ _ => 0) q (frN p m (mmP p (F n) (bzU p (G k) m) m) ((d - k % d) % d)))))), some (.agg (zb 512 (fl 64 G))), some (.agg (fdC (p : Int) m).toArray), some (.agg (zb 512 (fl 64 (updR (fun _ _ => 0) q (frN p m (mmP p (F n) (bzU p (G k) m) m) ((d - k % d) % d)))))), some (.agg (zb 512 (fl 64 (tmP p m d G (dlT p m d F G))))), none, none]) ?_ ?_ ?_
 · intro v hv0
   exact ⟨hb.drew, Kx.start _ _, ⟨_, B3.drew⟩, (fun _ => B3.drew), (fun h => by cases h), ⟨_, B4.drew⟩, (fun _ => B4.drew), (fun h => by cases h), VF.start⟩
 · refine (.cons rfl ?_ (.cons rfl ?_ (.cons rfl ?_ (.cons rfl ?_ (.cons rfl ?_ (.cons rfl ?_ (.cons rfl ?_ (.nil _))))))))
   all_goals intro L v W5 hd hn ⟨hB, hX, x3, q3, n3, x4, q4, n4, V⟩ K hK
   · refine wp_load_any 26 _ rfl _ rfl 512 26 _ (B5.kx hX (by simp <;> omega)) _ Try.underlying26 rfl Try.size26 ?_
     exact hK _ _ _ rfl ⟨hB, hX, x3, q3, n3, x4, q4, n4, V.step 0 rfl⟩
   · refine wp_load_any 26 _ rfl _ rfl 512 26 _ (B2.kx hX (by simp <;> omega)) _ Try.underlying26 rfl Try.size26 ?_
     exact hK _ _ _ rfl ⟨hB, hX, x3, q3, n3, x4, q4, n4, V.step 1 rfl⟩
   · refine wp_load_rowv 96 _ rfl _ rfl 96 _ (B1.kx hX (by simp <;> omega)) _ Try.underlying96 rfl 65 Try.size96 (by simp [fdC_len]) ?_
     exact hK _ _ _ rfl ⟨hB, hX, x3, q3, n3, x4, q4, n4, V.step 2 rfl⟩
   · refine wp_load_any 26 _ rfl _ rfl 512 26 _ (B5.kx hX (by simp <;> omega)) _ Try.underlying26 rfl Try.size26 ?_
     exact hK _ _ _ rfl ⟨hB, hX, x3, q3, n3, x4, q4, n4, V.step 3 rfl⟩
   · have e1 := V.at (zdq hd 1 rfl) rfl
     have e2 := V.at (zdq hd 2 rfl) rfl
     have e3 := V.at (zdq hd 3 rfl) rfl
     go_wp2_with (go_at_call 96; refine (HTM.out _).mono ?_; rintro e wy ⟨rfl, hy⟩)
     exact hK _ (.agg (zb 512 (fl 64 (tmP p m d G (dlT p m d F G))))) _ (by simp only [Act.put, pA, pB, pC, e1, e2, e3]) ⟨hB.trans (hy.mono hB.size), hX.below hy, (let ⟨g, h⟩ := x3; ⟨g, h.zw hy⟩), (fun h => (q3 h).below hy (q3 h).lt), (fun h => (n3 h).below hy (n3 h).lt), (let ⟨g, h⟩ := x4; ⟨g, h.zw hy⟩), (fun h => (q4 h).below hy (q4 h).lt), (fun h => (n4 h).below hy (n4 h).lt), V.step 4 rfl⟩
   · have e0 := V.at (zdq hd 0 rfl) rfl
     obtain ⟨gz, hk⟩ := x3
     refine zsb 26 _ _ rfl _ 512 (fl 64 (updR (fun _ _ => 0) q (frN p m (mmP p (F n) (bzU p (G k) m) m) ((d - k % d) % d)))) rfl e0 26 gz hk Try.size26 ?_
     exact hK _ undef _ rfl ⟨zr hB (by omega) _, hX.row (by simp) _, ⟨_, hk.row _⟩, (fun h => absurd h (by simp [setL])), (fun _ => hk.row _), (let ⟨g, h⟩ := x4; ⟨g, (h).rowOther (by omega)⟩), (fun h => (q4 h).rowOther (by omega)), (fun h => (n4 h).rowOther (by omega)), V.skip 5 rfl⟩
   have e4 := V.at (zdq hd 4 rfl) rfl
   obtain ⟨gz, hk⟩ := x4
   refine zsb 26 _ _ rfl _ 512 (fl 64 (tmP p m d G (dlT p m d F G))) rfl e4 26 gz hk Try.size26 ?_
   exact hK _ undef _ rfl ⟨zr hB (by omega) _, hX.row (by simp) _, (let ⟨g, h⟩ := x3; ⟨g, (h).rowOther (by omega)⟩), (fun h => (q3 h).rowOther (by omega)), (fun h => (n3 h).rowOther (by omega)), ⟨_, hk.row _⟩, (fun h => absurd h (by simp [setL])), (fun _ => hk.row _), V.skip 6 rfl⟩
 intro L v W5 hL ⟨hB, hX, x3, q3, n3, x4, q4, n4, V⟩
 have r3 := n3 (hL 5 (by decide))
 have r4 := n4 (hL 6 (by decide))
 have e0 := V.at (hL 0 (by decide)) rfl
 have e1 := V.at (hL 1 (by decide)) rfl
 have e2 := V.at (hL 2 (by decide)) rfl
 have e3 := V.at (hL 3 (by decide)) rfl
 have e4 := V.at (hL 4 (by decide)) rfl
 clear hL x3 q3 n3 x4 q4 n4 V
 replace B0 := B0.kx hX (by simp <;> omega)
 replace B1 := B1.kx hX (by simp <;> omega)
 replace B2 := B2.kx hX (by simp <;> omega)
 replace B5 := B5.kx hX (by simp <;> omega)
 clear hX
 simp only [Exit.then, e0, e1, e2, e3, e4]
 clear e0 e1 e2 e3 e4
 replace B3 := r3
 clear r3
 replace B4 := r4
 clear r4
 replace hb := hB
 clear hB
 clear hbase lt_B0 lt_B1 lt_B2 lt_B3 lt_B4 lt_B5
 go_wp2_with fail
 refine bodyPost_ret (results_any2 rfl _ _ _ 512 _ _ _ 512 _ _ rfl B3 _ Try.underlying26 rfl Try.size26 rfl B4 _ Try.underlying26 rfl Try.size26) rfl ⟨by rw [HT.out], hb⟩
end Go.Proofs.Yteloknnooebabaa
namespace Go.Proofs.Yteloknnooebabaa
open Go Go.RowKit
attribute [local irreducible] deg addK strP frI frN mmP pmP resP bzU bzD bzW skA skD
theorem dql_def (p : Nat) (m : Nat → Nat) (d : Nat) (F G : Nat → Nat → Nat) : gdR p (fun F => dlT p m d F G) (fun F => dlF p m d F G) (skD G) 8 (fun _ _ => 0) F = dql p m d F G := by unfold dql; rfl
theorem skDivL_any (p : Nat) (m : Nat → Nat) (F0 G : Nat → Nat → Nat) (w : World) (hpr : p = 2 ∨ p = 3 ∨ p = 5 ∨ p = 7) (lm : ∀ k, k < 64 → m k < p) (d : Nat) (hmon : mon m d) (hi : irr p (cut m) d) (hd9 : d ≤ 9) (hF : rsk p m F0) (hG : rsk p m G) (hG0 : 0 ≤ skD G) :
 Calls Try.prog 195 #[.agg (zb 512 (fl 64 F0)), .agg (fdC (p : Int) m).toArray, .agg (zb 512 (fl 64 G)), .func (.func 106) #[] #[]] w fun e w' => e = .returned (.tuple #[.agg (zb 512 (fl 64 (dql p m d F0 G).1)), .agg (zb 512 (fl 64 (dql p m d F0 G).2))]) ∧ Below w.heap.size w w' := by
 have p0 : 0 < p := by omega
 have hd := hmon.1
 have hd1 := hi.1
 have h0 : 0 ≤ deg m := by omega
 have h9 : deg m ≤ 9 := by omega
 have p2 : 2 ≤ p := by omega
 have p7 : p ≤ 7 := by omega
 have HI0 := Lib.hid (show gdR p (fun F => dlT p m d F G) (fun F => dlF p m d F G) (skD G) 8 (fun _ _ => 0) F0 = dql p m d F0 G ∧ skD F0 < ((8 : Nat) : Int) ∧ rsk p m (fun _ _ => 0) ∧ rsk p m F0 from ⟨dql_def p m d F0 G, by have := zsd F0; omega, fun _ _ => zero_rsd p0 h0, hF⟩)
 have HS := Lib.hid (fun (F : Nat → Nat → Nat) (hF : rsk p m F) (h : skD G ≤ skD F) => dl_step hpr lm hmon hi hd9 hF hG hG0 h)
 have HST := Lib.hid (fun (F : Nat → Nat → Nat) (hF : rsk p m F) (h : skD G ≤ skD F) W => leftStep_any p m F G W hpr lm d hmon hi hd9 hF hG hG0 h)
 have HPL := Lib.hid (fun (Q T : Nat → Nat → Nat) (hQ : rsk p m Q) (hT : rsk p m T) W => skPlus_any p m Q T W p2 p7 (fun i hi8 => (hQ i hi8).1) (fun i hi8 => (hT i hi8).1))
 have HMI := Lib.hid (fun (Q T : Nat → Nat → Nat) (hQ : rsk p m Q) (hT : rsk p m T) W => skMinus_any p m Q T W p2 p7 (fun i hi8 => (hQ i hi8).1) (fun i hi8 => (hT i hi8).1))
 have HP := Lib.hid (fun (F G : Nat → Nat → Nat) => show rsk p m (tmP p m d F G) from fun i _ => tmP_rsd hpr lm h0 i)
 have HA := Lib.hid (fun (Q T : Nat → Nat → Nat) (hQ : rsk p m Q) (hT : rsk p m T) => show rsk p m (skA p Q T 1) from skA_rsk p0 h0 hQ hT)
 clear hF hG hd hd1 h0 h9 hmon hi lm hpr
 have HG0 := Lib.hid hG0
 clear hG0
 go_enter Try.func195, Try.ntmps195
 go_upto_region 1 with (fail)
 rw [← zero512]
 obtain ⟨W1, hwo⟩ : ∃ v : World, v = (((((w.alloc (.cells (zb 512 (fl 64 F0)) 26)).alloc (.cells (fdC (p : Int) m).toArray 96)).alloc (.cells (zb 512 (fl 64 G)) 26)).alloc (.cells (zb 512 (fl 64 (fun _ _ => 0))) 26)).alloc (.cells (zb 512 (fl 64 (fun _ _ => 0))) 26)) := ⟨_, rfl⟩
 have B0 : Blk W1 (w.heap.size) 512 26 (fl 64 F0) := by subst hwo; have := (((((Blk.new w 512 26 (fl 64 F0)).alloc (.cells (fdC (p : Int) m).toArray 96)).alloc (.cells (zb 512 (fl 64 G)) 26)).alloc (.cells (zb 512 (fl 64 (fun _ _ => 0))) 26)).alloc (.cells (zb 512 (fl 64 (fun _ _ => 0))) 26)); simpa using this
 have B1 : Row W1 (w.heap.size + 1) 96 (fdC (p : Int) m).toArray := by subst hwo; have := ((((Row.new (w.alloc (.cells (zb 512 (fl 64 F0)) 26)) 96 (fdC (p : Int) m).toArray).alloc (.cells (zb 512 (fl 64 G)) 26)).alloc (.cells (zb 512 (fl 64 (fun _ _ => 0))) 26)).alloc (.cells (zb 512 (fl 64 (fun _ _ => 0))) 26)); simpa using this
 have B2 : Blk W1 (w.heap.size + 1 + 1) 512 26 (fl 64 G) := by subst hwo; have := (((Blk.new ((w.alloc (.cells (zb 512 (fl 64 F0)) 26)).alloc (.cells (fdC (p : Int) m).toArray 96)) 512 26 (fl 64 G)).alloc (.cells (zb 512 (fl 64 (fun _ _ => 0))) 26)).alloc (.cells (zb 512 (fl 64 (fun _ _ => 0))) 26)); simpa using this
 have B3 : Blk W1 (w.heap.size + 1 + 1 + 1) 512 26 (fl 64 (fun _ _ => 0)) := by subst hwo; have := ((Blk.new (((w.alloc (.cells (zb 512 (fl 64 F0)) 26)).alloc (.cells (fdC (p : Int) m).toArray 96)).alloc (.cells (zb 512 (fl 64 G)) 26)) 512 26 (fl 64 (fun _ _ => 0))).alloc (.cells (zb 512 (fl 64 (fun _ _ => 0))) 26)); simpa using this
 have B4 : Blk W1 (w.heap.size + 1 + 1 + 1 + 1) 512 26 (fl 64 (fun _ _ => 0)) := by subst hwo; have := (Blk.new ((((w.alloc (.cells (zb 512 (fl 64 F0)) 26)).alloc (.cells (fdC (p : Int) m).toArray 96)).alloc (.cells (zb 512 (fl 64 G)) 26)).alloc (.cells (zb 512 (fl 64 (fun _ _ => 0))) 26)) 512 26 (fl 64 (fun _ _ => 0))); simpa using this
 have hb : Below w.heap.size w W1 := by subst hwo; exact ((((((Below.refl _ _).alloc (Nat.le_refl _) _).alloc (by simp) _).alloc (by simp; omega) _).alloc (by simp; omega) _).alloc (by simp; omega) _)
 rw [← hwo]
 clear hwo
 go_upto_region 2 with (first | rw [← z64] | rw [← zero512])
 have lt_B0 := B0.lt
 have lt_B1 := B1.lt
 have lt_B2 := B2.lt
 have lt_B3 := B3.lt
 have lt_B4 := B4.lt
 have lhb := hb.size
 obtain ⟨W2, hwo, hzQ⟩ : ∃ v : World, v = (W1.alloc (.cells (zb 512 (fl 64 (fun _ _ => 0))) 26)) ∧ Blk v (w.heap.size) 512 26 (fl 64 F0) ∧ Row v (w.heap.size + 1) 96 (fdC (p : Int) m).toArray ∧ Blk v (w.heap.size + 1 + 1) 512 26 (fl 64 G) ∧ Blk v (w.heap.size + 1 + 1 + 1) 512 26 (fl 64 (fun _ _ => 0)) ∧ Blk v (w.heap.size + 1 + 1 + 1 + 1) 512 26 (fl 64 (fun _ _ => 0)) ∧ Blk v (W1.heap.size) 512 26 (fl 64 (fun _ _ => 0)) ∧ Below w.heap.size w v := ⟨_, rfl, (B0.alloc (.cells (zb 512 (fl 64 (fun _ _ => 0))) 26)), (B1.alloc (.cells (zb 512 (fl 64 (fun _ _ => 0))) 26)), (B2.alloc (.cells (zb 512 (fl 64 (fun _ _ => 0))) 26)), (B3.alloc (.cells (zb 512 (fl 64 (fun _ _ => 0))) 26)), (B4.alloc (.cells (zb 512 (fl 64 (fun _ _ => 0))) 26)), (Blk.new W1 512 26 (fl 64 (fun _ _ => 0))), (hb.alloc (by have := hb.size; simp; omega) (.cells (zb 512 (fl 64 (fun _ _ => 0))) 26))⟩
 rw [← hwo]
 clear hwo B0 B1 B2 B3 B4 hb
 obtain ⟨B0, B1, B2, B3, B4, B5, hb⟩ := hzQ
 obtain ⟨N1, hNN⟩ : ∃ n : Nat, n = W1.heap.size := ⟨_, rfl⟩
 rw [← hNN] at lt_B0 lt_B1 lt_B2 lt_B3 lt_B4 lhb B5 ⊢
 clear hNN
 have zN1_0 := lt_B0
 have zN1_1 := lt_B1
 have zN1_2 := lt_B2
 have zN1_3 := lt_B3
 have zN1_4 := lt_B4
 have zN1 := lhb
 clear lt_B0 lt_B1 lt_B2 lt_B3 lt_B4 lhb
 try simp only [Act.put, pA, pB, pC]
 go_wp2_with fail
 go_loopw [13] (fun c wr => ∃ (fu : Nat) (Q F : Nat → Nat → Nat), Hid (gdR p (fun F => dlT p m d F G) (fun F => dlF p m d F G) (skD G) fu Q F = dql p m d F0 G ∧ skD F < (fu : Int) ∧ rsk p m Q ∧ rsk p m F) ∧ Below w.heap.size w wr ∧ Blk wr (w.heap.size) 512 26 (fl 64 F) ∧ Row wr (w.heap.size + 1) 96 (fdC (p : Int) m).toArray ∧ Blk wr (w.heap.size + 1 + 1) 512 26 (fl 64 G) ∧ Blk wr (w.heap.size + 1 + 1 + 1) 512 26 (fl 64 (fun _ _ => 0)) ∧ Blk wr (w.heap.size + 1 + 1 + 1 + 1) 512 26 (fl 64 (fun _ _ => 0)) ∧ Blk wr (N1) 512 26 (fl 64 Q)) (fun _ wr => skAt wr (w.heap.size))
 case atStart => exact ⟨8, _, _, HI0, hb, B0, B1, B2, B3, B4, B5⟩
 case round =>
  clear hb B0 B1 B2 B3 B4 B5 HI0
  obtain ⟨fu, Q, F, hI, hb, B0, B1, B2, B3, B4, B5⟩ := hrel
  have BF0 := Lib.hid B0
  by_cases hge : skD G ≤ skD F
  · obtain ⟨i1, i2, i3, i4⟩ := hI.out
    obtain ⟨s1, s2, s3, s4, s5, s6⟩ := HS.out F i4 hge
    obtain ⟨fu, rfl⟩ : ∃ x, fu = x + 1 := ⟨fu - 1, by have := HG0.out; omega⟩
    have hI2 := Lib.hid (show gdR p (fun F => dlT p m d F G) (fun F => dlF p m d F G) (skD G) fu (skA p Q (dlT p m d F G) 1) (dlF p m d F G) = dql p m d F0 G ∧ skD (dlF p m d F G) < (fu : Int) ∧ rsk p m (skA p Q (dlT p m d F G) 1) ∧ rsk p m (dlF p m d F G) from ⟨by rw [← i1, gdR_step (by omega)], by omega, HA.out _ _ i3 s4, s5⟩)
    have HK1 := Lib.hid (HST.out F i4 hge)
    have HK2 := Lib.hid (HPL.out Q (dlT p m d F G) i3 s4)
    have HK3 := Lib.hid (HMI.out F (tmP p m d G (dlT p m d F G)) i4 (HP.out _ _))
    have HM := Lib.hid s6
    clear i1 i2 i3 i4 s1 s2 s3 s4 s5 s6 hI
    go_upto_region 2 with (fail)
    refine zq Try.mixed (by kernel_rfl) (by kernel_rfl) (fun v => by (simp only [frL, Act.put, pA, pB, pC, Nat.reduceAdd, Nat.zero_add]; exact rfl))
     (fun L v W3 => Below wr.heap.size wr W3 ∧ VF L v [some (.agg (zb 512 (fl 64 F))), some (.int .i64 (skD F)), some (.agg (zb 512 (fl 64 G))), some (.int .i64 (skD G)), some (.bool true)]) ?_ ?_ ?_
    · intro v hv0
      exact ⟨(Below.refl _ wr).drew, VF.start⟩
    · refine (.cons rfl ?_ (.cons rfl ?_ (.cons rfl ?_ (.cons rfl ?_ (.cons rfl ?_ (.nil _))))))
      all_goals intro L v W3 hd hn ⟨hY, V⟩ K hK
      · refine zlc (B0.zw hY) Try.underlying26 Try.size26 ?_
        exact hK _ _ _ rfl ⟨hY, V.step 0 rfl⟩
      · have e0 := V.at (zdq hd 0 rfl) rfl
        go_wp2_with (go_at_call 95; refine (skDegree_any F _).mono ?_; rintro e wy ⟨rfl, hy⟩)
        exact hK _ (.int .i64 (skD F)) _ (by simp only [Act.put, pA, pB, pC, e0]) ⟨hY.trans (hy.mono hY.size), V.step 1 rfl⟩
      · refine zlc (B2.zw hY) Try.underlying26 Try.size26 ?_
        exact hK _ _ _ rfl ⟨hY, V.step 2 rfl⟩
      · have e2 := V.at (zdq hd 2 rfl) rfl
        go_wp2_with (go_at_call 95; refine (skDegree_any G _).mono ?_; rintro e wy ⟨rfl, hy⟩)
        exact hK _ (.int .i64 (skD G)) _ (by simp only [Act.put, pA, pB, pC, e2]) ⟨hY.trans (hy.mono hY.size), V.step 3 rfl⟩
      have e1 := V.at (zdq hd 1 rfl) rfl
      have e3 := V.at (zdq hd 3 rfl) rfl
      go_wp2_with fail
      try rw [show decide (skD G ≤ skD F) = true by simpa using hge]
      exact hK _ (.bool true) _ (by simp only [Act.put, pA, pB, pC, e1, e3]) ⟨hY, V.step 4 rfl⟩
    intro L v W3 hL ⟨hY, V⟩
    have e0 := V.at (hL 0 (by decide)) rfl
    have e1 := V.at (hL 1 (by decide)) rfl
    have e2 := V.at (hL 2 (by decide)) rfl
    have e3 := V.at (hL 3 (by decide)) rfl
    have e4 := V.at (hL 4 (by decide)) rfl
    clear hL V
    replace B0 := B0.zw hY
    replace B1 := B1.zw hY
    replace B2 := B2.zw hY
    replace B3 := B3.zw hY
    replace B4 := B4.zw hY
    replace B5 := B5.zw hY
    replace hb := hb.trans (hY.mono hb.size)
    clear hY
    simp only [Exit.then, e0, e1, e2, e3, e4]
    clear e0 e1 e2 e3 e4
    go_upto_region 3 with (fail)
    have lt_B0 := B0.lt
    have lt_B1 := B1.lt
    have lt_B2 := B2.lt
    have lt_B3 := B3.lt
    have lt_B4 := B4.lt
    have lt_B5 := B5.lt
    go_upto_region 4 with (first | rw [← z64] | rw [← zero512] | (refine zla (.tmp 4) B0 Try.underlying26 Try.size26 ?_) | (refine zlr rfl 96 (.tmp 5) rfl _ rfl 96 (fdC (p : Int) m).toArray B1 _ Try.underlying96 rfl 65 Try.size96 (by simp [fdC_len]) ?_) | (refine zla (.tmp 6) B2 Try.underlying26 Try.size26 ?_) | (go_at_call 106; refine (HK1.out _).mono ?_; rintro e W4 ⟨rfl, hW4⟩; replace B0 := B0.zw hW4; replace B1 := B1.zw hW4; replace B2 := B2.zw hW4; replace B3 := B3.zw hW4; replace B4 := B4.zw hW4; replace B5 := B5.zw hW4; replace hb := (hb).trans (hW4.mono (hb).size)) | (refine wpList_store_blk rfl 26 (.tmp 11) (.tmp 24) rfl _ 512 (fl 64 (dlT p m d F G)) rfl rfl 26 _ (((Blk.new W4 512 26 (fl 64 (fun _ _ => 0))).alloc (.cells (zb 512 (fl 64 (fun _ _ => 0))) 26))) Try.size26 ?_; try simp only [Act.put]) | (refine wpList_store_blk rfl 26 (.tmp 12) (.tmp 25) rfl _ 512 (fl 64 (tmP p m d G (dlT p m d F G))) rfl rfl 26 _ (((show Blk ((W4.alloc (.cells (zb 512 (fl 64 (fun _ _ => 0))) 26)).alloc (.cells (zb 512 (fl 64 (fun _ _ => 0))) 26)) (W4.heap.size + 1) 512 26 (fl 64 (fun _ _ => 0)) by have := Blk.new (W4.alloc (.cells (zb 512 (fl 64 (fun _ _ => 0))) 26)) 512 26 (fl 64 (fun _ _ => 0)); simpa using this).rowOther (by omega))) Try.size26 ?_; try simp only [Act.put]))
    have lt_B0 := B0.lt
    have lt_B1 := B1.lt
    have lt_B2 := B2.lt
    have lt_B3 := B3.lt
    have lt_B4 := B4.lt
    have lt_B5 := B5.lt
    have lhb := hb.size
    obtain ⟨W5, hwo, hzQ⟩ : ∃ v : World, v = ((((W4.alloc (.cells (zb 512 (fl 64 (fun _ _ => 0))) 26)).alloc (.cells (zb 512 (fl 64 (fun _ _ => 0))) 26)).setRow (W4.heap.size) (zb 512 (fl 64 (dlT p m d F G)))).setRow (W4.heap.size + 1) (zb 512 (fl 64 (tmP p m d G (dlT p m d F G))))) ∧ Blk v (w.heap.size) 512 26 (fl 64 F) ∧ Row v (w.heap.size + 1) 96 (fdC (p : Int) m).toArray ∧ Blk v (w.heap.size + 1 + 1) 512 26 (fl 64 G) ∧ Blk v (w.heap.size + 1 + 1 + 1) 512 26 (fl 64 (fun _ _ => 0)) ∧ Blk v (w.heap.size + 1 + 1 + 1 + 1) 512 26 (fl 64 (fun _ _ => 0)) ∧ Blk v (N1) 512 26 (fl 64 Q) ∧ Blk v (W4.heap.size) 512 26 (fl 64 (dlT p m d F G)) ∧ Blk v (W4.heap.size + 1) 512 26 (fl 64 (tmP p m d G (dlT p m d F G))) ∧ Below w.heap.size w v := ⟨_, rfl, ((((B0.alloc (.cells (zb 512 (fl 64 (fun _ _ => 0))) 26)).alloc (.cells (zb 512 (fl 64 (fun _ _ => 0))) 26)).rowOther (by omega)).rowOther (by omega)), ((((B1.alloc (.cells (zb 512 (fl 64 (fun _ _ => 0))) 26)).alloc (.cells (zb 512 (fl 64 (fun _ _ => 0))) 26)).rowOther (by omega)).rowOther (by omega)), ((((B2.alloc (.cells (zb 512 (fl 64 (fun _ _ => 0))) 26)).alloc (.cells (zb 512 (fl 64 (fun _ _ => 0))) 26)).rowOther (by omega)).rowOther (by omega)), ((((B3.alloc (.cells (zb 512 (fl 64 (fun _ _ => 0))) 26)).alloc (.cells (zb 512 (fl 64 (fun _ _ => 0))) 26)).rowOther (by omega)).rowOther (by omega)), ((((B4.alloc (.cells (zb 512 (fl 64 (fun _ _ => 0))) 26)).alloc (.cells (zb 512 (fl 64 (fun _ _ => 0))) 26)).rowOther (by omega)).rowOther (by omega)), ((((B5.alloc (.cells (zb 512 (fl 64 (fun _ _ => 0))) 26)).alloc (.cells (zb 512 (fl 64 (fun _ _ => 0))) 26)).rowOther (by omega)).rowOther (by omega)), ((((Blk.new W4 512 26 (fl 64 (fun _ _ => 0))).alloc (.cells (zb 512 (fl 64 (fun _ _ => 0))) 26)).row (fl 64 (dlT p m d F G))).rowOther (by omega)), (((show Blk ((W4.alloc (.cells (zb 512 (fl 64 (fun _ _ => 0))) 26)).alloc (.cells (zb 512 (fl 64 (fun _ _ => 0))) 26)) (W4.heap.size + 1) 512 26 (fl 64 (fun _ _ => 0)) by have := Blk.new (W4.alloc (.cells (zb 512 (fl 64 (fun _ _ => 0))) 26)) 512 26 (fl 64 (fun _ _ => 0)); simpa using this).rowOther (by omega)).row (fl 64 (tmP p m d G (dlT p m d F G)))), (zr (zr ((hb.alloc (by have := hb.size; simp; omega) (.cells (zb 512 (fl 64 (fun _ _ => 0))) 26)).alloc (by have := hb.size; simp; omega) (.cells (zb 512 (fl 64 (fun _ _ => 0))) 26)) (by omega) _) (by omega) _)⟩
    rw [← hwo]
    clear hwo B0 B1 B2 B3 B4 B5 hb
    obtain ⟨B0, B1, B2, B3, B4, B5, B6, B7, hb⟩ := hzQ
    obtain ⟨N2, hNN⟩ : ∃ n : Nat, n = W4.heap.size := ⟨_, rfl⟩
    rw [← hNN] at lt_B0 lt_B1 lt_B2 lt_B3 lt_B4 lt_B5 lhb B6 B7 ⊢
    clear hNN
    have zN2_0 := lt_B0
    have zN2_1 := lt_B1
    have zN2_2 := lt_B2
    have zN2_3 := lt_B3
    have zN2_4 := lt_B4
    have zN2_5 := lt_B5
    have zN2 := lhb
    clear lt_B0 lt_B1 lt_B2 lt_B3 lt_B4 lt_B5 lhb
    try simp only [Act.put, pA, pB, pC]
    have lt_B0 := B0.lt
    have lt_B1 := B1.lt
    have lt_B2 := B2.lt
    have lt_B3 := B3.lt
    have lt_B4 := B4.lt
    have lt_B5 := B5.lt
    have lt_B6 := B6.lt
    have lt_B7 := B7.lt
    go_upto_region 5 with (first | rw [← z64] | rw [← zero512] | (refine zla (.tmp 10) B5 Try.underlying26 Try.size26 ?_) | (refine zlr rfl 96 (.tmp 5) rfl _ rfl 96 (fdC (p : Int) m).toArray B1 _ Try.underlying96 rfl 65 Try.size96 (by simp [fdC_len]) ?_) | (refine zla (.tmp 11) B6 Try.underlying26 Try.size26 ?_) | (go_at_call 228; refine (HK2.out _).mono ?_; rintro e W6 ⟨rfl, hW6⟩; replace B0 := B0.zw hW6; replace B1 := B1.zw hW6; replace B2 := B2.zw hW6; replace B3 := B3.zw hW6; replace B4 := B4.zw hW6; replace B5 := B5.zw hW6; replace B6 := B6.zw hW6; replace B7 := B7.zw hW6; replace hb := (hb).trans (hW6.mono (hb).size)) | (refine zsr (.tmp 10) (.tmp 29) (fl 64 (skA p Q (dlT p m d F G) 1)) B5 Try.size26 ?_; try simp only [Act.put]))
    obtain ⟨W7, hwo, hzQ⟩ : ∃ v : World, v = (W6.setRow (N1) (zb 512 (fl 64 (skA p Q (dlT p m d F G) 1)))) ∧ Blk v (w.heap.size) 512 26 (fl 64 F) ∧ Row v (w.heap.size + 1) 96 (fdC (p : Int) m).toArray ∧ Blk v (w.heap.size + 1 + 1) 512 26 (fl 64 G) ∧ Blk v (w.heap.size + 1 + 1 + 1) 512 26 (fl 64 (fun _ _ => 0)) ∧ Blk v (w.heap.size + 1 + 1 + 1 + 1) 512 26 (fl 64 (fun _ _ => 0)) ∧ Blk v (N1) 512 26 (fl 64 (skA p Q (dlT p m d F G) 1)) ∧ Blk v (N2) 512 26 (fl 64 (dlT p m d F G)) ∧ Blk v (N2 + 1) 512 26 (fl 64 (tmP p m d G (dlT p m d F G))) ∧ Below w.heap.size w v := ⟨_, rfl, (B0.rowOther (by omega)), (B1.rowOther (by omega)), (B2.rowOther (by omega)), (B3.rowOther (by omega)), (B4.rowOther (by omega)), (B5.row (fl 64 (skA p Q (dlT p m d F G) 1))), (B6.rowOther (by omega)), (B7.rowOther (by omega)), (zr hb (by omega) _)⟩
    rw [← hwo]
    clear hwo B0 B1 B2 B3 B4 B5 B6 B7 hb
    obtain ⟨B0, B1, B2, B3, B4, B5, B6, B7, hb⟩ := hzQ
    try simp only [Act.put, pA, pB, pC]
    have lt_B0 := B0.lt
    have lt_B1 := B1.lt
    have lt_B2 := B2.lt
    have lt_B3 := B3.lt
    have lt_B4 := B4.lt
    have lt_B5 := B5.lt
    have lt_B6 := B6.lt
    have lt_B7 := B7.lt
    go_wp2_with (first | rw [← z64] | rw [← zero512] | (refine zla (.tmp 4) B0 Try.underlying26 Try.size26 ?_) | (refine zlr rfl 96 (.tmp 5) rfl _ rfl 96 (fdC (p : Int) m).toArray B1 _ Try.underlying96 rfl 65 Try.size96 (by simp [fdC_len]) ?_) | (refine zla (.tmp 12) B7 Try.underlying26 Try.size26 ?_) | (go_at_call 198; refine (HK3.out _).mono ?_; rintro e W8 ⟨rfl, hW8⟩; replace B0 := B0.zw hW8; replace B1 := B1.zw hW8; replace B2 := B2.zw hW8; replace B3 := B3.zw hW8; replace B4 := B4.zw hW8; replace B5 := B5.zw hW8; replace B6 := B6.zw hW8; replace B7 := B7.zw hW8; replace hb := (hb).trans (hW8.mono (hb).size)) | (refine zsr (.tmp 4) (.tmp 33) (fl 64 (skA p F (tmP p m d G (dlT p m d F G)) (-1))) B0 Try.size26 ?_; try simp only [Act.put]))
    obtain ⟨W9, hwo, hzQ⟩ : ∃ v : World, v = (W8.setRow (w.heap.size) (zb 512 (fl 64 (skA p F (tmP p m d G (dlT p m d F G)) (-1))))) ∧ Blk v (w.heap.size) 512 26 (fl 64 (skA p F (tmP p m d G (dlT p m d F G)) (-1))) ∧ Row v (w.heap.size + 1) 96 (fdC (p : Int) m).toArray ∧ Blk v (w.heap.size + 1 + 1) 512 26 (fl 64 G) ∧ Blk v (w.heap.size + 1 + 1 + 1) 512 26 (fl 64 (fun _ _ => 0)) ∧ Blk v (w.heap.size + 1 + 1 + 1 + 1) 512 26 (fl 64 (fun _ _ => 0)) ∧ Blk v (N1) 512 26 (fl 64 (skA p Q (dlT p m d F G) 1)) ∧ Blk v (N2) 512 26 (fl 64 (dlT p m d F G)) ∧ Blk v (N2 + 1) 512 26 (fl 64 (tmP p m d G (dlT p m d F G))) ∧ Below w.heap.size w v := ⟨_, rfl, (B0.row (fl 64 (skA p F (tmP p m d G (dlT p m d F G)) (-1)))), (B1.rowOther (by omega)), (B2.rowOther (by omega)), (B3.rowOther (by omega)), (B4.rowOther (by omega)), (B5.rowOther (by omega)), (B6.rowOther (by omega)), (B7.rowOther (by omega)), (zr hb (by omega) _)⟩
    rw [← hwo]
    clear hwo B0 B1 B2 B3 B4 B5 B6 B7 hb
    obtain ⟨B0, B1, B2, B3, B4, B5, B6, B7, hb⟩ := hzQ
    try simp only [Act.put, pA, pB, pC]
    go_roundw
    case rel => exact ⟨fu, _, _, hI2, hb, B0, B1, B2, B3, B4, B5⟩
    case measure => rw [skAt_blk B0, skAt_blk BF0.out]; have h1 := HM.out; have h2 := HG0.out; have h3 : skD (skA p F (tmP p m d G (dlT p m d F G)) (-1)) < skD F := h1; omega
  have HV := Lib.hid (show (Q, F) = dql p m d F0 G by rw [← hI.out.1, gdR_stop (by omega)])
  go_upto_region 2 with (fail)
  refine zq Try.mixed (by kernel_rfl) (by kernel_rfl) (fun v => by (simp only [frL, Act.put, pA, pB, pC, Nat.reduceAdd, Nat.zero_add]; exact rfl))
   (fun L v W3 => Below wr.heap.size wr W3 ∧ VF L v [some (.agg (zb 512 (fl 64 F))), some (.int .i64 (skD F)), some (.agg (zb 512 (fl 64 G))), some (.int .i64 (skD G)), some (.bool false)]) ?_ ?_ ?_
  · intro v hv0
    exact ⟨(Below.refl _ wr).drew, VF.start⟩
  · refine (.cons rfl ?_ (.cons rfl ?_ (.cons rfl ?_ (.cons rfl ?_ (.cons rfl ?_ (.nil _))))))
    all_goals intro L v W3 hd hn ⟨hY, V⟩ K hK
    · refine zlc (B0.zw hY) Try.underlying26 Try.size26 ?_
      exact hK _ _ _ rfl ⟨hY, V.step 0 rfl⟩
    · have e0 := V.at (zdq hd 0 rfl) rfl
      go_wp2_with (go_at_call 95; refine (skDegree_any F _).mono ?_; rintro e wy ⟨rfl, hy⟩)
      exact hK _ (.int .i64 (skD F)) _ (by simp only [Act.put, pA, pB, pC, e0]) ⟨hY.trans (hy.mono hY.size), V.step 1 rfl⟩
    · refine zlc (B2.zw hY) Try.underlying26 Try.size26 ?_
      exact hK _ _ _ rfl ⟨hY, V.step 2 rfl⟩
    · have e2 := V.at (zdq hd 2 rfl) rfl
      go_wp2_with (go_at_call 95; refine (skDegree_any G _).mono ?_; rintro e wy ⟨rfl, hy⟩)
      exact hK _ (.int .i64 (skD G)) _ (by simp only [Act.put, pA, pB, pC, e2]) ⟨hY.trans (hy.mono hY.size), V.step 3 rfl⟩
    have e1 := V.at (zdq hd 1 rfl) rfl
    have e3 := V.at (zdq hd 3 rfl) rfl
    go_wp2_with fail
    try rw [show decide (skD G ≤ skD F) = false by simpa using hge]
    exact hK _ (.bool false) _ (by simp only [Act.put, pA, pB, pC, e1, e3]) ⟨hY, V.step 4 rfl⟩
  intro L v W3 hL ⟨hY, V⟩
  have e0 := V.at (hL 0 (by decide)) rfl
  have e1 := V.at (hL 1 (by decide)) rfl
  have e2 := V.at (hL 2 (by decide)) rfl
  have e3 := V.at (hL 3 (by decide)) rfl
  have e4 := V.at (hL 4 (by decide)) rfl
  clear hL V
  replace B0 := B0.zw hY
  replace B1 := B1.zw hY
  replace B2 := B2.zw hY
  replace B3 := B3.zw hY
  replace B4 := B4.zw hY
  replace B5 := B5.zw hY
  replace hb := hb.trans (hY.mono hb.size)
  clear hY
  simp only [Exit.then, e0, e1, e2, e3, e4]
  clear e0 e1 e2 e3 e4
  go_upto_region 6 with (fail)
  have lt_B0 : (w.heap.size) < W3.heap.size := B0.lt
  have lt_B1 : (w.heap.size + 1) < W3.heap.size := B1.lt
  have lt_B2 : (w.heap.size + 1 + 1) < W3.heap.size := B2.lt
  have lt_B3 : (w.heap.size + 1 + 1 + 1) < W3.heap.size := B3.lt
  have lt_B4 : (w.heap.size + 1 + 1 + 1 + 1) < W3.heap.size := B4.lt
  have lt_B5 : (N1) < W3.heap.size := B5.lt
  have hbase : w.heap.size ≤ W3.heap.size := hb.size
  refine zq Try.mixed (by kernel_rfl) (by kernel_rfl) (fun v => by (simp only [frL, Act.put, pA, pB, pC, Nat.reduceAdd, Nat.zero_add]; exact rfl))
   (fun L v W4 => Below w.heap.size w W4 ∧ Kx [w.heap.size + 1 + 1 + 1, w.heap.size + 1 + 1 + 1 + 1] W3 W4 ∧ (∃ g, Blk W4 (w.heap.size + 1 + 1 + 1) 512 26 (g)) ∧ (L 2 = false → Blk W4 (w.heap.size + 1 + 1 + 1) 512 26 (fl 64 (fun _ _ => 0))) ∧ (L 2 = true → Blk W4 (w.heap.size + 1 + 1 + 1) 512 26 (fl 64 Q)) ∧ (∃ g, Blk W4 (w.heap.size + 1 + 1 + 1 + 1) 512 26 (g)) ∧ (L 3 = false → Blk W4 (w.heap.size + 1 + 1 + 1 + 1) 512 26 (fl 64 (fun _ _ => 0))) ∧ (L 3 = true → Blk W4 (w.heap.size + 1 + 1 + 1 + 1) 512 26 (fl 64 F)) ∧ VF L v [some (.agg (zb 512 (fl 64 Q))), some (.agg (zb 512 (fl 64 F))), none, none]) ?_ ?_ ?_
  · intro v hv0
    exact ⟨hb.drew, Kx.start _ _, ⟨_, B3.drew⟩, (fun _ => B3.drew), (fun h => by cases h), ⟨_, B4.drew⟩, (fun _ => B4.drew), (fun h => by cases h), VF.start⟩
  · refine (.cons rfl ?_ (.cons rfl ?_ (.cons rfl ?_ (.cons rfl ?_ (.nil _)))))
    all_goals intro L v W4 hd hn ⟨hB, hX, x3, q3, n3, x4, q4, n4, V⟩ K hK
    · refine wp_load_any 26 _ rfl _ rfl 512 26 _ (B5.kx hX (by simp <;> omega)) _ Try.underlying26 rfl Try.size26 ?_
      exact hK _ _ _ rfl ⟨hB, hX, x3, q3, n3, x4, q4, n4, V.step 0 rfl⟩
    · refine wp_load_any 26 _ rfl _ rfl 512 26 _ (B0.kx hX (by simp <;> omega)) _ Try.underlying26 rfl Try.size26 ?_
      exact hK _ _ _ rfl ⟨hB, hX, x3, q3, n3, x4, q4, n4, V.step 1 rfl⟩
    · have e0 := V.at (zdq hd 0 rfl) rfl
      obtain ⟨gz, hk⟩ := x3
      refine zsb 26 _ _ rfl _ 512 (fl 64 Q) rfl e0 26 gz hk Try.size26 ?_
      exact hK _ undef _ rfl ⟨zr hB (by omega) _, hX.row (by simp) _, ⟨_, hk.row _⟩, (fun h => absurd h (by simp [setL])), (fun _ => hk.row _), (let ⟨g, h⟩ := x4; ⟨g, (h).rowOther (by omega)⟩), (fun h => (q4 h).rowOther (by omega)), (fun h => (n4 h).rowOther (by omega)), V.skip 2 rfl⟩
    have e1 := V.at (zdq hd 1 rfl) rfl
    obtain ⟨gz, hk⟩ := x4
    refine zsb 26 _ _ rfl _ 512 (fl 64 F) rfl e1 26 gz hk Try.size26 ?_
    exact hK _ undef _ rfl ⟨zr hB (by omega) _, hX.row (by simp) _, (let ⟨g, h⟩ := x3; ⟨g, (h).rowOther (by omega)⟩), (fun h => (q3 h).rowOther (by omega)), (fun h => (n3 h).rowOther (by omega)), ⟨_, hk.row _⟩, (fun h => absurd h (by simp [setL])), (fun _ => hk.row _), V.skip 3 rfl⟩
  intro L v W4 hL ⟨hB, hX, x3, q3, n3, x4, q4, n4, V⟩
  have r3 := n3 (hL 2 (by decide))
  have r4 := n4 (hL 3 (by decide))
  have e0 := V.at (hL 0 (by decide)) rfl
  have e1 := V.at (hL 1 (by decide)) rfl
  clear hL x3 q3 n3 x4 q4 n4 V
  replace B0 := B0.kx hX (by simp <;> omega)
  replace B1 := B1.kx hX (by simp <;> omega)
  replace B2 := B2.kx hX (by simp <;> omega)
  replace B5 := B5.kx hX (by simp <;> omega)
  clear hX
  simp only [Exit.then, e0, e1]
  clear e0 e1
  replace B3 := r3
  clear r3
  replace B4 := r4
  clear r4
  replace hb := hB
  clear hB
  clear hbase lt_B0 lt_B1 lt_B2 lt_B3 lt_B4 lt_B5
  go_wp2_with fail
  refine bodyPost_ret (results_any2 rfl _ _ _ 512 _ _ _ 512 _ _ rfl B3 _ Try.underlying26 rfl Try.size26 rfl B4 _ Try.underlying26 rfl Try.size26) rfl ⟨by rw [← HV.out], hb⟩
end Go.Proofs.Yteloknnooebabaa
namespace Go.Proofs.Yteloknnooebabaa
open Go Go.RowKit
attribute [local irreducible] deg addK strP frI frN mmP pmP resP bzU bzD bzW skA skD
theorem l03Left_any (p : Nat) (m : Nat → Nat) (F0 G : Nat → Nat → Nat) (w : World) (hpr : p = 2 ∨ p = 3 ∨ p = 5 ∨ p = 7) (lm : ∀ k, k < 64 → m k < p) (d : Nat) (hmon : mon m d) (hi : irr p (cut m) d) (hd9 : d ≤ 9) (hF : rsk p m F0) (hG : rsk p m G) (hG0 : 0 ≤ skD G) :
 Calls Try.prog 105 #[.int .i64 (p : Int), .agg (zb 64 m), .agg (zb 512 (fl 64 F0)), .agg (zb 512 (fl 64 G))] w fun e w' => e = .returned (.tuple #[.agg (zb 512 (fl 64 (dql p m d F0 G).1)), .agg (zb 512 (fl 64 (dql p m d F0 G).2))]) ∧ Below w.heap.size w w' := by
 have p0 : 0 < p := by omega
 have hd := hmon.1
 have hd1 := hi.1
 have h0 : 0 ≤ deg m := by omega
 have h9 : deg m ≤ 9 := by omega
 have p2 : 2 ≤ p := by omega
 have p7 : p ≤ 7 := by omega
 have HI0 := Lib.hid (show skD F0 < ((8 : Nat) : Int) ∧ rsk p m F0 from ⟨by have := zsd F0; omega, hF⟩)
 have HE := Lib.hid (show zb 512 (fl 64 (gdU (fun F => dlA p m d F G) (fun F => dlF p m d F G) (skD G) 8 (fun _ _ => 0) F0).1) = zb 512 (fl 64 (dql p m d F0 G).1) ∧ (gdU (fun F => dlA p m d F G) (fun F => dlF p m d F G) (skD G) 8 (fun _ _ => 0) F0).2 = (dql p m d F0 G).2 from by
  obtain ⟨a, b⟩ := gdU_eq p0 h0 (GD_left hpr lm hmon hi hd9 hG hG0) 8 (fun _ _ => 0) (fun _ _ => 0) F0 (fun _ _ => zero_rsd p0 h0) hF (fun _ _ _ _ => rfl) (fun _ _ _ _ _ => rfl)
  unfold dql
  exact ⟨zbc (n := 512) (fl_congr (n := 8) (c := 64) (by decide) b), a⟩)
 obtain ⟨k, hk⟩ : ∃ k : Nat, skD G = (k : Int) := ⟨(skD G).toNat, by omega⟩
 obtain ⟨k8, gk⟩ := skN_row hk
 have HS := Lib.hid (fun (F : Nat → Nat → Nat) (hF : rsk p m F) (h : skD G ≤ skD F) => dl_step hpr lm hmon hi hd9 hF hG hG0 h)
 have HIV := Lib.hid (fun (y : Nat → Nat) (hy : rsd p m y) W => l03Inverse_any p m y W hpr lm h0 hy.1)
 obtain ⟨Kq, hK⟩ : ∃ Kq, Kq = k % d := ⟨_, rfl⟩
 have hKd : Kq < d := by rw [hK]; exact Nat.mod_lt _ (by omega)
 have tq1 : (k : Int).tmod (d : Int) = (Kq : Int) := by rw [Int.tmod_eq_emod_of_nonneg (by omega), hK]; rfl
 obtain ⟨E, hE⟩ : ∃ E, E = d - Kq := ⟨_, rfl⟩
 have hEI : (d : Int) - (Kq : Int) = (E : Int) := by omega
 have hdz : ¬ (d : Int) = 0 := by omega
 have HDM := Lib.hid (show ∀ W, Calls Try.prog 124 #[.agg (zb 64 m)] W fun e w' => e = .returned (.int .i64 (d : Int)) ∧ Below W.heap.size W w' from fun W => by have := l01Deg_any m W; rwa [hd] at this)
 have HMM := Lib.hid (show ∀ (F : Nat → Nat → Nat) (n : Nat), rsk p m F → skD F = (n : Int) → ∀ W, Calls Try.prog 188 #[.int .i64 (p : Int), .agg (zb 64 (F n)), .agg (zb 64 (resP p (bzU p (G k) m) m)), .agg (zb 64 m)] W fun e w' => e = .returned (.agg (zb 64 (mmP p (F n) (bzU p (G k) m) m))) ∧ Below W.heap.size W w' from fun F n hF hn W => by
  have h := l01MulMod_any p (F n) (resP p (bzU p (G k) m) m) m W hpr (hF n (skN_row hn).1).1 (resP_lt p0 (fun k _ => bzU_lt p0 k)) lm h0
  rw [zbc (mmP_rest (a := F n) hpr (fun k _ => bzU_lt p0 k) lm hmon)] at h
  exact h)
 have HFR := Lib.hid (show ∀ (F : Nat → Nat → Nat) (n : Nat), skD F = (n : Int) → ∀ W, Calls Try.prog 189 #[.int .i64 (p : Int), .agg (zb 64 (mmP p (F n) (bzU p (G k) m) m)), .int .i64 (E : Int), .agg (zb 64 m)] W fun e w' => e = .returned (.agg (zb 64 (dlA p m d F G))) ∧ Below W.heap.size W w' from fun F n hn W => by
  have h := l03Frobenius_any p m (mmP p (F n) (bzU p (G k) m) m) E W hpr lm d hd hd1 hd9 (by omega) (mm_rsd hpr lm h0)
  unfold dlA
  rw [hn, hk, show (k : Int).toNat = k by omega, show (n : Int).toNat = n by omega, ← hK, ← hE]
  exact h)
 clear hK hE
 have HTE := Lib.hid (show ∀ (F : Nat → Nat → Nat) (n q : Nat), skD F = (n : Int) → n - k = q → q < 8 → ∀ W, Calls Try.prog 193 #[.agg (zb 64 (dlA p m d F G)), .int .i64 (q : Int)] W fun e w' => e = .returned (.agg (zb 512 (fl 64 (dlT p m d F G)))) ∧ Below W.heap.size W w' from fun F n q hn hq q8 W => by
  have h := l03Term_any (dlA p m d F G) q q8 W
  unfold dlT sng
  rw [hn, hk, show (n : Int).toNat - (k : Int).toNat = q by omega]
  exact h)
 have HTI := Lib.hid (fun (T : Nat → Nat → Nat) (hT : rsk p m T) (h : skD T + skD G ≤ 7) W => l03Times_ok p m G T W hpr lm d hd hd1 hd9 (fun i hi8 => (hG i hi8).1) hT (by omega))
 have HAD := Lib.hid (fun (Q T : Nat → Nat → Nat) (hQ : rsk p m Q) (hT : rsk p m T) W => l03Add_any p Q T (-1) W p2 p7 (by omega) (by omega) (fun i hi8 => (hQ i hi8).1) (fun i hi8 => (hT i hi8).1))
 have HP := Lib.hid (fun (F G : Nat → Nat → Nat) => show rsk p m (tmP p m d F G) from fun i _ => tmP_rsd hpr lm h0 i)
 have HRG := Lib.hid (hG k k8)
 have HGD := Lib.hid (show ∀ W, Calls Try.prog 97 #[.agg (zb 512 (fl 64 G))] W fun e w' => e = .returned (.int .i64 (k : Int)) ∧ Below W.heap.size W w' from fun W => by have := l03Deg_any G W; rwa [hk] at this)
 have HK := Lib.hid hk
 clear hF hG hd hd1 h0 h9 hmon hi lm hpr hG0 gk hk
 go_enter Try.func105, Try.ntmps105
 go_upto_region 1 with (fail)
 rw [← zero512]
 obtain ⟨W1, hwo⟩ : ∃ v : World, v = (((((w.alloc (.cells (zb 64 (m)) 24)).alloc (.cells (zb 512 (fl 64 F0)) 26)).alloc (.cells (zb 512 (fl 64 G)) 26)).alloc (.cells (zb 512 (fl 64 (fun _ _ => 0))) 26)).alloc (.cells (zb 512 (fl 64 (fun _ _ => 0))) 26)) := ⟨_, rfl⟩
 have B0 : Blk W1 (w.heap.size) 64 24 (m) := by subst hwo; have := (((((Blk.new w 64 24 (m)).alloc (.cells (zb 512 (fl 64 F0)) 26)).alloc (.cells (zb 512 (fl 64 G)) 26)).alloc (.cells (zb 512 (fl 64 (fun _ _ => 0))) 26)).alloc (.cells (zb 512 (fl 64 (fun _ _ => 0))) 26)); simpa using this
 have B1 : Blk W1 (w.heap.size + 1) 512 26 (fl 64 F0) := by subst hwo; have := ((((Blk.new (w.alloc (.cells (zb 64 (m)) 24)) 512 26 (fl 64 F0)).alloc (.cells (zb 512 (fl 64 G)) 26)).alloc (.cells (zb 512 (fl 64 (fun _ _ => 0))) 26)).alloc (.cells (zb 512 (fl 64 (fun _ _ => 0))) 26)); simpa using this
 have B2 : Blk W1 (w.heap.size + 1 + 1) 512 26 (fl 64 G) := by subst hwo; have := (((Blk.new ((w.alloc (.cells (zb 64 (m)) 24)).alloc (.cells (zb 512 (fl 64 F0)) 26)) 512 26 (fl 64 G)).alloc (.cells (zb 512 (fl 64 (fun _ _ => 0))) 26)).alloc (.cells (zb 512 (fl 64 (fun _ _ => 0))) 26)); simpa using this
 have B3 : Blk W1 (w.heap.size + 1 + 1 + 1) 512 26 (fl 64 (fun _ _ => 0)) := by subst hwo; have := ((Blk.new (((w.alloc (.cells (zb 64 (m)) 24)).alloc (.cells (zb 512 (fl 64 F0)) 26)).alloc (.cells (zb 512 (fl 64 G)) 26)) 512 26 (fl 64 (fun _ _ => 0))).alloc (.cells (zb 512 (fl 64 (fun _ _ => 0))) 26)); simpa using this
 have B4 : Blk W1 (w.heap.size + 1 + 1 + 1 + 1) 512 26 (fl 64 (fun _ _ => 0)) := by subst hwo; have := (Blk.new ((((w.alloc (.cells (zb 64 (m)) 24)).alloc (.cells (zb 512 (fl 64 F0)) 26)).alloc (.cells (zb 512 (fl 64 G)) 26)).alloc (.cells (zb 512 (fl 64 (fun _ _ => 0))) 26)) 512 26 (fl 64 (fun _ _ => 0))); simpa using this
 have hb : Below w.heap.size w W1 := by subst hwo; exact ((((((Below.refl _ _).alloc (Nat.le_refl _) _).alloc (by simp) _).alloc (by simp; omega) _).alloc (by simp; omega) _).alloc (by simp; omega) _)
 rw [← hwo]
 clear hwo
 have lt_B0 : (w.heap.size) < W1.heap.size := B0.lt
 have lt_B1 : (w.heap.size + 1) < W1.heap.size := B1.lt
 have lt_B2 : (w.heap.size + 1 + 1) < W1.heap.size := B2.lt
 have lt_B3 : (w.heap.size + 1 + 1 + 1) < W1.heap.size := B3.lt
 have lt_B4 : (w.heap.size + 1 + 1 + 1 + 1) < W1.heap.size := B4.lt
 refine zq Try.mixed (by kernel_rfl) (by kernel_rfl) (fun v => by (simp only [frL, Act.put, pA, pB, pC, Nat.reduceAdd, Nat.zero_add]; exact rfl))
  (fun L v W2 => Below W1.heap.size W1 W2 ∧ (L 5 = true → AF (v 5) W2 W1.heap.size 512 26) ∧ (L 6 = true → PF (v 5) W2 W1.heap.size 512 26 (fl 64 (fun _ _ => 0))) ∧ VF L v [some (.agg (zb 512 (fl 64 (fun _ _ => 0)))), some (.agg (zb 512 (fl 64 G))), some (.int .i64 (k : Int)), some (.agg (zb 64 (m))), some (.int .i64 (d : Int)), none, none, some (.int .i64 (k : Int)), some (.int .i64 (d : Int))]) ?_ ?_ ?_
 · intro v hv0
   exact ⟨(Below.refl _ W1).drew, (fun h => by cases h), (fun h => by cases h), VF.start⟩
 · refine (.cons rfl ?_ (.cons rfl ?_ (.cons rfl ?_ (.cons rfl ?_ (.cons rfl ?_ (.cons rfl ?_ (.cons rfl ?_ (.cons rfl ?_ (.cons rfl ?_ (.nil _))))))))))
   all_goals intro L v W2 hd hn ⟨hY, h5, h6, V⟩ K hK
   · go_wp2_with fail
     rw [← zero512]
     exact hK _ (.agg (zb 512 (fl 64 (fun _ _ => 0)))) _ (by simp only [Act.put, pA, pB, pC ]) ⟨hY, h5, h6, V.step 0 rfl⟩
   · refine zlc (B2.zw hY) Try.underlying26 Try.size26 ?_
     exact hK _ _ _ rfl ⟨hY, h5, h6, V.step 1 rfl⟩
   · have e1 := V.at (zdq hd 1 rfl) rfl
     go_wp2_with (go_at_call 97; refine (HGD.out _).mono ?_; rintro e wy ⟨rfl, hy⟩)
     exact hK _ (.int .i64 (k : Int)) _ (by simp only [Act.put, pA, pB, pC, e1]) ⟨hY.trans (hy.mono hY.size), (fun h => (h5 h).below hy), (fun h => (h6 h).below hy), V.step 2 rfl⟩
   · refine zlc (B0.zw hY) Try.underlying24 Try.size24 ?_
     exact hK _ _ _ rfl ⟨hY, h5, h6, V.step 3 rfl⟩
   · have e3 := V.at (zdq hd 3 rfl) rfl
     go_wp2_with (go_at_call 124; refine (HDM.out _).mono ?_; rintro e wy ⟨rfl, hy⟩)
     exact hK _ (.int .i64 (d : Int)) _ (by simp only [Act.put, pA, pB, pC, e3]) ⟨hY.trans (hy.mono hY.size), (fun h => (h5 h).below hy), (fun h => (h6 h).below hy), V.step 4 rfl⟩
   · go_wp2_with fail
     rw [← zero512]
     exact hK _ (.pointer (some ⟨W2.heap.size, 0, none⟩)) _ (by simp only [Act.put, pA, pB, pC ]) ⟨hY.alloc hY.size _, (fun _ => (PF.new W2 512 26 _ hY.size).af), (fun h => absurd rfl (hn 6 _ rfl h ⟨5, .data⟩ (by simp) rfl)), V.skip 5 rfl⟩
   · have e0 := V.at (zdq hd 0 rfl) rfl
     obtain ⟨gz, b, ea, hN, hk⟩ := (h5 (zdq hd 5 rfl)).out
     refine zsb 26 _ _ rfl b 512 (fl 64 (fun _ _ => 0)) ea e0 26 gz hk Try.size26 ?_
     exact hK _ undef _ rfl ⟨zr hY hN _, (fun h => (h5 h).row hk), (fun _ => by rw [show updV v 6 undef 5 = v 5 from rfl, ea]; exact PF.row hk hN _), V.skip 6 rfl⟩
   · have e2 := V.at (zdq hd 2 rfl) rfl
     go_wp2_with fail
     exact hK _ (.int .i64 (k : Int)) _ (by simp only [Act.put, pA, pB, pC, e2]) ⟨hY, h5, h6, V.step 7 rfl⟩
   have e4 := V.at (zdq hd 4 rfl) rfl
   go_wp2_with fail
   exact hK _ (.int .i64 (d : Int)) _ (by simp only [Act.put, pA, pB, pC, e4]) ⟨hY, h5, h6, V.step 8 rfl⟩
 intro L v W2 hL ⟨hY, h5, h6, V⟩
 obtain ⟨k1_5, e5, hNk1_5, hk1_5⟩ := (h6 (hL 6 (by decide))).out
 have e0 := V.at (hL 0 (by decide)) rfl
 have e1 := V.at (hL 1 (by decide)) rfl
 have e2 := V.at (hL 2 (by decide)) rfl
 have e3 := V.at (hL 3 (by decide)) rfl
 have e4 := V.at (hL 4 (by decide)) rfl
 have e7 := V.at (hL 7 (by decide)) rfl
 have e8 := V.at (hL 8 (by decide)) rfl
 clear hL h5 h6 V
 replace B0 := B0.zw hY
 replace B1 := B1.zw hY
 replace B2 := B2.zw hY
 replace B3 := B3.zw hY
 replace B4 := B4.zw hY
 replace hb := hb.trans (hY.mono hb.size)
 clear hY
 simp only [Exit.then, e5, e0, e1, e2, e3, e4, e7, e8]
 clear e5 e0 e1 e2 e3 e4 e7 e8
 have B5 := hk1_5
 clear hk1_5
 have zk1_5_0 : w.heap.size < k1_5 := by omega
 have zk1_5_1 : w.heap.size + 1 < k1_5 := by omega
 have zk1_5_2 : w.heap.size + 1 + 1 < k1_5 := by omega
 have zk1_5_3 : w.heap.size + 1 + 1 + 1 < k1_5 := by omega
 have zk1_5_4 : w.heap.size + 1 + 1 + 1 + 1 < k1_5 := by omega
 clear lt_B0 lt_B1 lt_B2 lt_B3 lt_B4
 go_upto_region 2 with (fail)
 go_upto_region 99 with (first | (refine zla (.tmp 6) B1 Try.underlying26 Try.size26 ?_) | (go_at_call 97; refine (l03Deg_any F0 _).mono ?_; rintro e W3 ⟨rfl, hW3⟩; replace B0 := B0.zw hW3; replace B1 := B1.zw hW3; replace B2 := B2.zw hW3; replace B3 := B3.zw hW3; replace B4 := B4.zw hW3; replace B5 := B5.zw hW3; replace hb := (hb).trans (hW3.mono (hb).size)))
 go_loopw [13] (fun c wr => ∃ (fu : Nat) (Q F : Nat → Nat → Nat), c = .int .i64 (skD F) ∧ Hid (gdU (fun F => dlA p m d F G) (fun F => dlF p m d F G) (skD G) fu Q F = gdU (fun F => dlA p m d F G) (fun F => dlF p m d F G) (skD G) 8 (fun _ _ => 0) F0 ∧ skD F < (fu : Int) ∧ rsk p m F) ∧ Below w.heap.size w wr ∧ Blk wr (w.heap.size) 64 24 m ∧ Blk wr (w.heap.size + 1) 512 26 (fl 64 F) ∧ Blk wr (w.heap.size + 1 + 1) 512 26 (fl 64 G) ∧ Blk wr (w.heap.size + 1 + 1 + 1) 512 26 (fl 64 (fun _ _ => 0)) ∧ Blk wr (w.heap.size + 1 + 1 + 1 + 1) 512 26 (fl 64 (fun _ _ => 0)) ∧ Blk wr (k1_5) 512 26 (fl 64 Q)) (fun c _ => (intOf c + 1).toNat)
 case atStart => exact ⟨8, _, _, rfl, Lib.hid ⟨rfl, HI0.out⟩, hb, B0, B1, B2, B3, B4, B5⟩
 case round =>
  clear hb B0 B1 B2 B3 B4 B5 HI0
  obtain ⟨fu, Q, F, rfl, hI, hb, B0, B1, B2, B3, B4, B5⟩ := hrel
  by_cases hge : (k : Int) ≤ skD F
  · obtain ⟨i1, i2, i4⟩ := hI.out
    obtain ⟨s1, s2, s3, s4, s5, s6⟩ := HS.out F i4 (by have := HK.out; omega)
    obtain ⟨fu, rfl⟩ : ∃ x, fu = x + 1 := ⟨fu - 1, by omega⟩
    obtain ⟨n, hn⟩ : ∃ n : Nat, skD F = (n : Int) := ⟨(skD F).toNat, by omega⟩
    obtain ⟨n8, fn⟩ := skN_row hn
    obtain ⟨q, hq⟩ : ∃ q : Nat, n - k = q := ⟨_, rfl⟩
    have q8 : q < 8 := by omega
    have hI2 := Lib.hid (show gdU (fun F => dlA p m d F G) (fun F => dlF p m d F G) (skD G) fu (updR Q q (dlA p m d F G)) (dlF p m d F G) = gdU (fun F => dlA p m d F G) (fun F => dlF p m d F G) (skD G) 8 (fun _ _ => 0) F0 ∧ skD (dlF p m d F G) < (fu : Int) ∧ rsk p m (dlF p m d F G) from ⟨by rw [← i1, gdU_step (by have := HK.out; omega), show (skD F).toNat - (skD G).toNat = q by have := HK.out; omega], by omega, s5⟩)
    have HK1 := Lib.hid (HMM.out F n i4 hn)
    have HK2 := Lib.hid (HTE.out F n q hn hq q8)
    have HK3 := Lib.hid (HTI.out (dlT p m d F G) s4 (by have := HK.out; omega))
    have HK4 := Lib.hid (HAD.out F (tmP p m d G (dlT p m d F G)) i4 (HP.out _ _))
    have HK5 := Lib.hid (HFR.out F n hn)
    have HK6 := Lib.hid (HIV.out (G k) HRG.out)
    have hM := Lib.hid (show skD (dlF p m d F G) < (n : Int) from by omega)
    have HM0 := Lib.hid (show (-1 : Int) ≤ skD (dlF p m d F G) from (zsd _).1)
    rw [hn] at hge ⊢
    have hgeI : (n : Int) ≥ (k : Int) := hge
    have hqI : (n : Int) - (k : Int) = (q : Int) := by omega
    clear i1 i2 i4 s1 s2 s3 s4 s5 s6 hI hn fn hq
    go_upto_region 5 with (fail)
    have lt_B0 : (w.heap.size) < wr.heap.size := B0.lt
    have lt_B1 : (w.heap.size + 1) < wr.heap.size := B1.lt
    have lt_B2 : (w.heap.size + 1 + 1) < wr.heap.size := B2.lt
    have lt_B3 : (w.heap.size + 1 + 1 + 1) < wr.heap.size := B3.lt
    have lt_B4 : (w.heap.size + 1 + 1 + 1 + 1) < wr.heap.size := B4.lt
    have lt_B5 : (k1_5) < wr.heap.size := B5.lt
    refine zq Try.mixed (by kernel_rfl) (by kernel_rfl) (fun v => by (simp only [frL, Act.put, pA, pB, pC, Nat.reduceAdd, Nat.zero_add]; exact rfl))
     (fun L v W4 => Below wr.heap.size wr W4 ∧ (L 20 = true → AF (v 20) W4 wr.heap.size 64 24) ∧ (L 21 = true → PF (v 20) W4 wr.heap.size 64 24 (dlA p m d F G)) ∧ VF L v [some (.int .i64 (p : Int)), some (.int .i64 (p : Int)), some (.int .i64 (n : Int)), some (.pointer (some ⟨w.heap.size + 1, n * 64, none⟩)), some (.agg (zb 64 (F n))), some (.int .i64 (p : Int)), some (.int .i64 (k : Int)), some (.pointer (some ⟨w.heap.size + 1 + 1, k * 64, none⟩)), some (.agg (zb 64 (G k))), some (.agg (zb 64 (m))), some (.agg (zb 64 (resP p (bzU p (G k) m) m))), some (.agg (zb 64 (m))), some (.agg (zb 64 (mmP p (F n) (bzU p (G k) m) m))), some (.int .i64 (d : Int)), some (.int .i64 (k : Int)), some (.int .i64 (d : Int)), some (.int .i64 (Kq : Int)), some (.int .i64 (E : Int)), some (.agg (zb 64 (m))), some (.agg (zb 64 (dlA p m d F G))), none, none]) ?_ ?_ ?_
    · intro v hv0
      exact ⟨(Below.refl _ wr).drew, (fun h => by cases h), (fun h => by cases h), VF.start⟩
    · refine (.cons rfl ?_ (.cons rfl ?_ (.cons rfl ?_ (.cons rfl ?_ (.cons rfl ?_ (.cons rfl ?_ (.cons rfl ?_ (.cons rfl ?_ (.cons rfl ?_ (.cons rfl ?_ (.cons rfl ?_ (.cons rfl ?_ (.cons rfl ?_ (.cons rfl ?_ (.cons rfl ?_ (.cons rfl ?_ (.cons rfl ?_ (.cons rfl ?_ (.cons rfl ?_ (.cons rfl ?_ (.cons rfl ?_ (.cons rfl ?_ (.nil _)))))))))))))))))))))))
      all_goals intro L v W4 hd hn ⟨hY, h20, h21, V⟩ K hK
      · go_wp2_with fail
        exact hK _ (.int .i64 (p : Int)) _ (by simp only [Act.put, pA, pB, pC ]) ⟨hY, h20, h21, V.step 0 rfl⟩
      · go_wp2_with fail
        exact hK _ (.int .i64 (p : Int)) _ (by simp only [Act.put, pA, pB, pC ]) ⟨hY, h20, h21, V.step 1 rfl⟩
      · go_wp2_with fail
        exact hK _ (.int .i64 (n : Int)) _ (by simp only [Act.put, pA, pB, pC ]) ⟨hY, h20, h21, V.step 2 rfl⟩
      · have e2 := V.at (zdq hd 2 rfl) rfl
        go_wp2_with fail
        exact hK _ (.pointer (some ⟨w.heap.size + 1, n * 64, none⟩)) _ (by simp only [Act.put, pA, pB, pC, e2]) ⟨hY, h20, h21, V.step 3 rfl⟩
      · have e3 := V.at (zdq hd 3 rfl) rfl
        refine wp_load_mid 24 _ rfl _ (n * 64) e3 _ _ (((B1.zw hY)).sk (by omega)) Try.underlying24 rfl (by rw [zl]; exact Try.size24) ?_
        exact hK _ _ _ rfl ⟨hY, h20, h21, V.step 4 rfl⟩
      · go_wp2_with fail
        exact hK _ (.int .i64 (p : Int)) _ (by simp only [Act.put, pA, pB, pC ]) ⟨hY, h20, h21, V.step 5 rfl⟩
      · go_wp2_with fail
        exact hK _ (.int .i64 (k : Int)) _ (by simp only [Act.put, pA, pB, pC ]) ⟨hY, h20, h21, V.step 6 rfl⟩
      · have e6 := V.at (zdq hd 6 rfl) rfl
        go_wp2_with fail
        exact hK _ (.pointer (some ⟨w.heap.size + 1 + 1, k * 64, none⟩)) _ (by simp only [Act.put, pA, pB, pC, e6]) ⟨hY, h20, h21, V.step 7 rfl⟩
      · have e7 := V.at (zdq hd 7 rfl) rfl
        refine wp_load_mid 24 _ rfl _ (k * 64) e7 _ _ (((B2.zw hY)).sk (by omega)) Try.underlying24 rfl (by rw [zl]; exact Try.size24) ?_
        exact hK _ _ _ rfl ⟨hY, h20, h21, V.step 8 rfl⟩
      · refine zlc (B0.zw hY) Try.underlying24 Try.size24 ?_
        exact hK _ _ _ rfl ⟨hY, h20, h21, V.step 9 rfl⟩
      · have e5 := V.at (zdq hd 5 rfl) rfl
        have e8 := V.at (zdq hd 8 rfl) rfl
        have e9 := V.at (zdq hd 9 rfl) rfl
        go_wp2_with (go_at_call 192; refine (HK6.out _).mono ?_; rintro e wy ⟨rfl, hy⟩)
        exact hK _ (.agg (zb 64 (resP p (bzU p (G k) m) m))) _ (by simp only [Act.put, pA, pB, pC, e5, e8, e9]) ⟨hY.trans (hy.mono hY.size), (fun h => (h20 h).below hy), (fun h => (h21 h).below hy), V.step 10 rfl⟩
      · refine zlc (B0.zw hY) Try.underlying24 Try.size24 ?_
        exact hK _ _ _ rfl ⟨hY, h20, h21, V.step 11 rfl⟩
      · have e1 := V.at (zdq hd 1 rfl) rfl
        have e4 := V.at (zdq hd 4 rfl) rfl
        have e10 := V.at (zdq hd 10 rfl) rfl
        have e11 := V.at (zdq hd 11 rfl) rfl
        go_wp2_with (go_at_call 188; refine (HK1.out _).mono ?_; rintro e wy ⟨rfl, hy⟩)
        exact hK _ (.agg (zb 64 (mmP p (F n) (bzU p (G k) m) m))) _ (by simp only [Act.put, pA, pB, pC, e1, e4, e10, e11]) ⟨hY.trans (hy.mono hY.size), (fun h => (h20 h).below hy), (fun h => (h21 h).below hy), V.step 12 rfl⟩
      · go_wp2_with fail
        exact hK _ (.int .i64 (d : Int)) _ (by simp only [Act.put, pA, pB, pC ]) ⟨hY, h20, h21, V.step 13 rfl⟩
      · go_wp2_with fail
        exact hK _ (.int .i64 (k : Int)) _ (by simp only [Act.put, pA, pB, pC ]) ⟨hY, h20, h21, V.step 14 rfl⟩
      · go_wp2_with fail
        exact hK _ (.int .i64 (d : Int)) _ (by simp only [Act.put, pA, pB, pC ]) ⟨hY, h20, h21, V.step 15 rfl⟩
      · have e14 := V.at (zdq hd 14 rfl) rfl
        have e15 := V.at (zdq hd 15 rfl) rfl
        go_wp2_with fail
        exact hK _ (.int .i64 (Kq : Int)) _ (by simp only [Act.put, pA, pB, pC, e14, e15]) ⟨hY, h20, h21, V.step 16 rfl⟩
      · have e13 := V.at (zdq hd 13 rfl) rfl
        have e16 := V.at (zdq hd 16 rfl) rfl
        go_wp2_with fail
        exact hK _ (.int .i64 (E : Int)) _ (by simp only [Act.put, pA, pB, pC, e13, e16]) ⟨hY, h20, h21, V.step 17 rfl⟩
      · refine zlc (B0.zw hY) Try.underlying24 Try.size24 ?_
        exact hK _ _ _ rfl ⟨hY, h20, h21, V.step 18 rfl⟩
      · have e0 := V.at (zdq hd 0 rfl) rfl
        have e12 := V.at (zdq hd 12 rfl) rfl
        have e17 := V.at (zdq hd 17 rfl) rfl
        have e18 := V.at (zdq hd 18 rfl) rfl
        go_wp2_with (go_at_call 189; refine (HK5.out _).mono ?_; rintro e wy ⟨rfl, hy⟩)
        exact hK _ (.agg (zb 64 (dlA p m d F G))) _ (by simp only [Act.put, pA, pB, pC, e0, e12, e17, e18]) ⟨hY.trans (hy.mono hY.size), (fun h => (h20 h).below hy), (fun h => (h21 h).below hy), V.step 19 rfl⟩
      · go_wp2_with fail
        rw [← z64]
        exact hK _ (.pointer (some ⟨W4.heap.size, 0, none⟩)) _ (by simp only [Act.put, pA, pB, pC ]) ⟨hY.alloc hY.size _, (fun _ => (PF.new W4 64 24 _ hY.size).af), (fun h => absurd rfl (hn 21 _ rfl h ⟨20, .data⟩ (by simp) rfl)), V.skip 20 rfl⟩
      have e19 := V.at (zdq hd 19 rfl) rfl
      obtain ⟨gz, b, ea, hN, hk⟩ := (h20 (zdq hd 20 rfl)).out
      refine zsb 24 _ _ rfl b 64 (dlA p m d F G) ea e19 24 gz hk Try.size24 ?_
      exact hK _ undef _ rfl ⟨zr hY hN _, (fun h => (h20 h).row hk), (fun _ => by rw [show updV v 21 undef 20 = v 20 from rfl, ea]; exact PF.row hk hN _), V.skip 21 rfl⟩
    intro L v W4 hL ⟨hY, h20, h21, V⟩
    obtain ⟨k5_20, e20, hNk5_20, hk5_20⟩ := (h21 (hL 21 (by decide))).out
    have e0 := V.at (hL 0 (by decide)) rfl
    have e1 := V.at (hL 1 (by decide)) rfl
    have e2 := V.at (hL 2 (by decide)) rfl
    have e3 := V.at (hL 3 (by decide)) rfl
    have e4 := V.at (hL 4 (by decide)) rfl
    have e5 := V.at (hL 5 (by decide)) rfl
    have e6 := V.at (hL 6 (by decide)) rfl
    have e7 := V.at (hL 7 (by decide)) rfl
    have e8 := V.at (hL 8 (by decide)) rfl
    have e9 := V.at (hL 9 (by decide)) rfl
    have e10 := V.at (hL 10 (by decide)) rfl
    have e11 := V.at (hL 11 (by decide)) rfl
    have e12 := V.at (hL 12 (by decide)) rfl
    have e13 := V.at (hL 13 (by decide)) rfl
    have e14 := V.at (hL 14 (by decide)) rfl
    have e15 := V.at (hL 15 (by decide)) rfl
    have e16 := V.at (hL 16 (by decide)) rfl
    have e17 := V.at (hL 17 (by decide)) rfl
    have e18 := V.at (hL 18 (by decide)) rfl
    have e19 := V.at (hL 19 (by decide)) rfl
    clear hL h20 h21 V
    replace B0 := B0.zw hY
    replace B1 := B1.zw hY
    replace B2 := B2.zw hY
    replace B3 := B3.zw hY
    replace B4 := B4.zw hY
    replace B5 := B5.zw hY
    replace hb := hb.trans (hY.mono hb.size)
    clear hY
    simp only [Exit.then, e20, e0, e1, e2, e3, e4, e5, e6, e7, e8, e9, e10, e11, e12, e13, e14, e15, e16, e17, e18, e19]
    clear e20 e0 e1 e2 e3 e4 e5 e6 e7 e8 e9 e10 e11 e12 e13 e14 e15 e16 e17 e18 e19
    have B6 := hk5_20
    clear hk5_20
    have zk5_20_0 : w.heap.size < k5_20 := by omega
    have zk5_20_1 : w.heap.size + 1 < k5_20 := by omega
    have zk5_20_2 : w.heap.size + 1 + 1 < k5_20 := by omega
    have zk5_20_3 : w.heap.size + 1 + 1 + 1 < k5_20 := by omega
    have zk5_20_4 : w.heap.size + 1 + 1 + 1 + 1 < k5_20 := by omega
    have zk5_20_5 : k1_5 < k5_20 := by omega
    clear lt_B0 lt_B1 lt_B2 lt_B3 lt_B4 lt_B5
    go_upto_region 6 with (fail)
    have lt_B0 := B0.lt
    have lt_B1 := B1.lt
    have lt_B2 := B2.lt
    have lt_B3 := B3.lt
    have lt_B4 := B4.lt
    have lt_B5 := B5.lt
    have lt_B6 := B6.lt
    go_upto_region 7 with (first | rw [← z64] | (refine zla (.tmp 14) B6 Try.underlying24 Try.size24 ?_) | (refine zss rfl 24 (.tmp 53) (.tmp 52) rfl _ (q) (dlA p m d F G) rfl rfl 26 _ (B5) (by omega) Try.size24 ?_; try simp only [Act.put]))
    obtain ⟨W5, hwo, hzQ⟩ : ∃ v : World, v = (W4.setRow (k1_5) (zb 512 (fl 64 (updR Q q (dlA p m d F G))))) ∧ Blk v (w.heap.size) 64 24 (m) ∧ Blk v (w.heap.size + 1) 512 26 (fl 64 F) ∧ Blk v (w.heap.size + 1 + 1) 512 26 (fl 64 G) ∧ Blk v (w.heap.size + 1 + 1 + 1) 512 26 (fl 64 (fun _ _ => 0)) ∧ Blk v (w.heap.size + 1 + 1 + 1 + 1) 512 26 (fl 64 (fun _ _ => 0)) ∧ Blk v (k1_5) 512 26 (fl 64 (updR Q q (dlA p m d F G))) ∧ Blk v (k5_20) 64 24 (dlA p m d F G) ∧ Below w.heap.size w v := ⟨_, rfl, (B0.rowOther (by omega)), (B1.rowOther (by omega)), (B2.rowOther (by omega)), (B3.rowOther (by omega)), (B4.rowOther (by omega)), (B5.row (fl 64 (updR Q q (dlA p m d F G)))), (B6.rowOther (by omega)), (zr hb (by omega) _)⟩
    rw [← hwo]
    clear hwo B0 B1 B2 B3 B4 B5 B6 hb
    obtain ⟨B0, B1, B2, B3, B4, B5, B6, hb⟩ := hzQ
    try simp only [Act.put, pA, pB, pC]
    have lt_B0 : (w.heap.size) < W5.heap.size := B0.lt
    have lt_B1 : (w.heap.size + 1) < W5.heap.size := B1.lt
    have lt_B2 : (w.heap.size + 1 + 1) < W5.heap.size := B2.lt
    have lt_B3 : (w.heap.size + 1 + 1 + 1) < W5.heap.size := B3.lt
    have lt_B4 : (w.heap.size + 1 + 1 + 1 + 1) < W5.heap.size := B4.lt
    have lt_B5 : (k1_5) < W5.heap.size := B5.lt
    have lt_B6 : (k5_20) < W5.heap.size := B6.lt
    refine zq Try.mixed (by kernel_rfl) (by kernel_rfl) (fun v => by (simp only [frL, Act.put, pA, pB, pC, Nat.reduceAdd, Nat.zero_add]; exact rfl))
     (fun L v W6 => Below W5.heap.size W5 W6 ∧ (L 12 = true → AF (v 12) W6 W5.heap.size 512 26) ∧ (L 13 = true → PF (v 12) W6 W5.heap.size 512 26 (fl 64 (tmP p m d G (dlT p m d F G)))) ∧ VF L v [some (.int .i64 (p : Int)), some (.agg (zb 64 (m))), some (.agg (zb 512 (fl 64 G))), some (.agg (zb 64 (dlA p m d F G))), some (.int .i64 (n : Int)), some (.int .i64 (k : Int)), some (.int .i64 (q : Int)), some (.agg (zb 512 (fl 64 (dlT p m d F G)))), some (.tuple #[(.agg (zb 512 (fl 64 (tmP p m d G (dlT p m d F G))))), (.bool true)]), some (.tuple #[(.agg (zb 512 (fl 64 (tmP p m d G (dlT p m d F G))))), (.bool true)]), some (.agg (zb 512 (fl 64 (tmP p m d G (dlT p m d F G))))), some (.bool true), none, none, some (.bool true)]) ?_ ?_ ?_
    · intro v hv0
      exact ⟨(Below.refl _ W5).drew, (fun h => by cases h), (fun h => by cases h), VF.start⟩
    · refine (.cons rfl ?_ (.cons rfl ?_ (.cons rfl ?_ (.cons rfl ?_ (.cons rfl ?_ (.cons rfl ?_ (.cons rfl ?_ (.cons rfl ?_ (.cons rfl ?_ (.cons rfl ?_ (.cons rfl ?_ (.cons rfl ?_ (.cons rfl ?_ (.cons rfl ?_ (.cons rfl ?_ (.nil _))))))))))))))))
      all_goals intro L v W6 hd hn ⟨hY, h12, h13, V⟩ K hK
      · go_wp2_with fail
        exact hK _ (.int .i64 (p : Int)) _ (by simp only [Act.put, pA, pB, pC ]) ⟨hY, h12, h13, V.step 0 rfl⟩
      · refine zlc (B0.zw hY) Try.underlying24 Try.size24 ?_
        exact hK _ _ _ rfl ⟨hY, h12, h13, V.step 1 rfl⟩
      · refine zlc (B2.zw hY) Try.underlying26 Try.size26 ?_
        exact hK _ _ _ rfl ⟨hY, h12, h13, V.step 2 rfl⟩
      · refine zlc (B6.zw hY) Try.underlying24 Try.size24 ?_
        exact hK _ _ _ rfl ⟨hY, h12, h13, V.step 3 rfl⟩
      · go_wp2_with fail
        exact hK _ (.int .i64 (n : Int)) _ (by simp only [Act.put, pA, pB, pC ]) ⟨hY, h12, h13, V.step 4 rfl⟩
      · go_wp2_with fail
        exact hK _ (.int .i64 (k : Int)) _ (by simp only [Act.put, pA, pB, pC ]) ⟨hY, h12, h13, V.step 5 rfl⟩
      · have e4 := V.at (zdq hd 4 rfl) rfl
        have e5 := V.at (zdq hd 5 rfl) rfl
        go_wp2_with fail
        exact hK _ (.int .i64 (q : Int)) _ (by simp only [Act.put, pA, pB, pC, e4, e5]) ⟨hY, h12, h13, V.step 6 rfl⟩
      · have e3 := V.at (zdq hd 3 rfl) rfl
        have e6 := V.at (zdq hd 6 rfl) rfl
        go_wp2_with (go_at_call 193; refine (HK2.out _).mono ?_; rintro e wy ⟨rfl, hy⟩)
        exact hK _ (.agg (zb 512 (fl 64 (dlT p m d F G)))) _ (by simp only [Act.put, pA, pB, pC, e3, e6]) ⟨hY.trans (hy.mono hY.size), (fun h => (h12 h).below hy), (fun h => (h13 h).below hy), V.step 7 rfl⟩
      · have e0 := V.at (zdq hd 0 rfl) rfl
        have e1 := V.at (zdq hd 1 rfl) rfl
        have e2 := V.at (zdq hd 2 rfl) rfl
        have e7 := V.at (zdq hd 7 rfl) rfl
        go_wp2_with (go_at_call 93; refine (HK3.out _).mono ?_; rintro e wy ⟨rfl, hy⟩)
        exact hK _ (.tuple #[(.agg (zb 512 (fl 64 (tmP p m d G (dlT p m d F G))))), (.bool true)]) _ (by simp only [Act.put, pA, pB, pC, e0, e1, e2, e7]) ⟨hY.trans (hy.mono hY.size), (fun h => (h12 h).below hy), (fun h => (h13 h).below hy), V.step 8 rfl⟩
      · have e8 := V.at (zdq hd 8 rfl) rfl
        go_wp2_with fail
        exact hK _ (.tuple #[(.agg (zb 512 (fl 64 (tmP p m d G (dlT p m d F G))))), (.bool true)]) _ (by simp only [Act.put, pA, pB, pC, e8]) ⟨hY, h12, h13, V.step 9 rfl⟩
      · have e9 := V.at (zdq hd 9 rfl) rfl
        go_wp2_with fail
        exact hK _ (.agg (zb 512 (fl 64 (tmP p m d G (dlT p m d F G))))) _ (by simp only [Act.put, pA, pB, pC, e9]) ⟨hY, h12, h13, V.step 10 rfl⟩
      · have e9 := V.at (zdq hd 9 rfl) rfl
        go_wp2_with fail
        exact hK _ (.bool true) _ (by simp only [Act.put, pA, pB, pC, e9]) ⟨hY, h12, h13, V.step 11 rfl⟩
      · go_wp2_with fail
        rw [← zero512]
        exact hK _ (.pointer (some ⟨W6.heap.size, 0, none⟩)) _ (by simp only [Act.put, pA, pB, pC ]) ⟨hY.alloc hY.size _, (fun _ => (PF.new W6 512 26 _ hY.size).af), (fun h => absurd rfl (hn 13 _ rfl h ⟨12, .data⟩ (by simp) rfl)), V.skip 12 rfl⟩
      · have e10 := V.at (zdq hd 10 rfl) rfl
        obtain ⟨gz, b, ea, hN, hk⟩ := (h12 (zdq hd 12 rfl)).out
        refine zsb 26 _ _ rfl b 512 (fl 64 (tmP p m d G (dlT p m d F G))) ea e10 26 gz hk Try.size26 ?_
        exact hK _ undef _ rfl ⟨zr hY hN _, (fun h => (h12 h).row hk), (fun _ => by rw [show updV v 13 undef 12 = v 12 from rfl, ea]; exact PF.row hk hN _), V.skip 13 rfl⟩
      have e11 := V.at (zdq hd 11 rfl) rfl
      go_wp2_with fail
      exact hK _ (.bool true) _ (by simp only [Act.put, pA, pB, pC, e11]) ⟨hY, h12, h13, V.step 14 rfl⟩
    intro L v W6 hL ⟨hY, h12, h13, V⟩
    obtain ⟨k7_12, e12, hNk7_12, hk7_12⟩ := (h13 (hL 13 (by decide))).out
    have e0 := V.at (hL 0 (by decide)) rfl
    have e1 := V.at (hL 1 (by decide)) rfl
    have e2 := V.at (hL 2 (by decide)) rfl
    have e3 := V.at (hL 3 (by decide)) rfl
    have e4 := V.at (hL 4 (by decide)) rfl
    have e5 := V.at (hL 5 (by decide)) rfl
    have e6 := V.at (hL 6 (by decide)) rfl
    have e7 := V.at (hL 7 (by decide)) rfl
    have e8 := V.at (hL 8 (by decide)) rfl
    have e9 := V.at (hL 9 (by decide)) rfl
    have e10 := V.at (hL 10 (by decide)) rfl
    have e11 := V.at (hL 11 (by decide)) rfl
    have e14 := V.at (hL 14 (by decide)) rfl
    clear hL h12 h13 V
    replace B0 := B0.zw hY
    replace B1 := B1.zw hY
    replace B2 := B2.zw hY
    replace B3 := B3.zw hY
    replace B4 := B4.zw hY
    replace B5 := B5.zw hY
    replace B6 := B6.zw hY
    replace hb := hb.trans (hY.mono hb.size)
    clear hY
    simp only [Exit.then, e12, e0, e1, e2, e3, e4, e5, e6, e7, e8, e9, e10, e11, e14]
    clear e12 e0 e1 e2 e3 e4 e5 e6 e7 e8 e9 e10 e11 e14
    have B7 := hk7_12
    clear hk7_12
    have zk7_12_0 : w.heap.size < k7_12 := by omega
    have zk7_12_1 : w.heap.size + 1 < k7_12 := by omega
    have zk7_12_2 : w.heap.size + 1 + 1 < k7_12 := by omega
    have zk7_12_3 : w.heap.size + 1 + 1 + 1 < k7_12 := by omega
    have zk7_12_4 : w.heap.size + 1 + 1 + 1 + 1 < k7_12 := by omega
    have zk7_12_5 : k1_5 < k7_12 := by omega
    have zk7_12_6 : k5_20 < k7_12 := by omega
    clear lt_B0 lt_B1 lt_B2 lt_B3 lt_B4 lt_B5 lt_B6
    go_upto_region 8 with (fail)
    have lt_B0 := B0.lt
    have lt_B1 := B1.lt
    have lt_B2 := B2.lt
    have lt_B3 := B3.lt
    have lt_B4 := B4.lt
    have lt_B5 := B5.lt
    have lt_B6 := B6.lt
    have lt_B7 := B7.lt
    go_upto_region 4 with (first | rw [← z64] | rw [← zero512] | (refine zla (.tmp 6) B1 Try.underlying26 Try.size26 ?_) | (refine zla (.tmp 15) B7 Try.underlying26 Try.size26 ?_) | (go_at_call 194; refine (HK4.out _).mono ?_; rintro e W7 ⟨rfl, hW7⟩; replace B0 := B0.zw hW7; replace B1 := B1.zw hW7; replace B2 := B2.zw hW7; replace B3 := B3.zw hW7; replace B4 := B4.zw hW7; replace B5 := B5.zw hW7; replace B6 := B6.zw hW7; replace B7 := B7.zw hW7; replace hb := (hb).trans (hW7.mono (hb).size)) | (refine zsr (.tmp 6) (.tmp 69) (fl 64 (skA p F (tmP p m d G (dlT p m d F G)) (-1))) B1 Try.size26 ?_; try simp only [Act.put]))
    obtain ⟨W8, hwo, hzQ⟩ : ∃ v : World, v = (W7.setRow (w.heap.size + 1) (zb 512 (fl 64 (skA p F (tmP p m d G (dlT p m d F G)) (-1))))) ∧ Blk v (w.heap.size) 64 24 (m) ∧ Blk v (w.heap.size + 1) 512 26 (fl 64 (skA p F (tmP p m d G (dlT p m d F G)) (-1))) ∧ Blk v (w.heap.size + 1 + 1) 512 26 (fl 64 G) ∧ Blk v (w.heap.size + 1 + 1 + 1) 512 26 (fl 64 (fun _ _ => 0)) ∧ Blk v (w.heap.size + 1 + 1 + 1 + 1) 512 26 (fl 64 (fun _ _ => 0)) ∧ Blk v (k1_5) 512 26 (fl 64 (updR Q q (dlA p m d F G))) ∧ Blk v (k5_20) 64 24 (dlA p m d F G) ∧ Blk v (k7_12) 512 26 (fl 64 (tmP p m d G (dlT p m d F G))) ∧ Below w.heap.size w v := ⟨_, rfl, (B0.rowOther (by omega)), (B1.row (fl 64 (skA p F (tmP p m d G (dlT p m d F G)) (-1)))), (B2.rowOther (by omega)), (B3.rowOther (by omega)), (B4.rowOther (by omega)), (B5.rowOther (by omega)), (B6.rowOther (by omega)), (B7.rowOther (by omega)), (zr hb (by omega) _)⟩
    rw [← hwo]
    clear hwo B0 B1 B2 B3 B4 B5 B6 B7 hb
    obtain ⟨B0, B1, B2, B3, B4, B5, B6, B7, hb⟩ := hzQ
    try simp only [Act.put, pA, pB, pC]
    go_wp2_with (first | (refine zla (.tmp 6) B1 Try.underlying26 Try.size26 ?_) | (go_at_call 97; refine (l03Deg_any (skA p F (tmP p m d G (dlT p m d F G)) (-1)) _).mono ?_; rintro e W9 ⟨rfl, hW9⟩; replace B0 := B0.zw hW9; replace B1 := B1.zw hW9; replace B2 := B2.zw hW9; replace B3 := B3.zw hW9; replace B4 := B4.zw hW9; replace B5 := B5.zw hW9; replace B6 := B6.zw hW9; replace B7 := B7.zw hW9; replace hb := (hb).trans (hW9.mono (hb).size)))
    go_roundw
    case rel => exact ⟨fu, _, _, rfl, hI2, hb, B0, B1, B2, B3, B4, B5⟩
    case measure => have h1 : skD (skA p F (tmP p m d G (dlT p m d F G)) (-1)) < (n : Int) := hM.out; have h2 : (-1 : Int) ≤ skD (skA p F (tmP p m d G (dlT p m d F G)) (-1)) := HM0.out; simp only [intOf]; omega
  have hgeI : ¬ (skD F ≥ (k : Int)) := hge
  have HV := Lib.hid (show (Q, F) = gdU (fun F => dlA p m d F G) (fun F => dlF p m d F G) (skD G) 8 (fun _ _ => 0) F0 by rw [← hI.out.1, gdU_stop (by have := HK.out; omega)])
  have HV1 := Lib.hid (show zb 512 (fl 64 Q) = zb 512 (fl 64 (dql p m d F0 G).1) by rw [← HE.out.1, ← HV.out])
  have HV2 := Lib.hid (show F = (dql p m d F0 G).2 by rw [← HE.out.2, ← HV.out])
  go_upto_region 9 with (fail)
  have lt_B0 : (w.heap.size) < wr.heap.size := B0.lt
  have lt_B1 : (w.heap.size + 1) < wr.heap.size := B1.lt
  have lt_B2 : (w.heap.size + 1 + 1) < wr.heap.size := B2.lt
  have lt_B3 : (w.heap.size + 1 + 1 + 1) < wr.heap.size := B3.lt
  have lt_B4 : (w.heap.size + 1 + 1 + 1 + 1) < wr.heap.size := B4.lt
  have lt_B5 : (k1_5) < wr.heap.size := B5.lt
  have hbase : w.heap.size ≤ wr.heap.size := hb.size
  refine zq Try.mixed (by kernel_rfl) (by kernel_rfl) (fun v => by (simp only [frL, Act.put, pA, pB, pC, Nat.reduceAdd, Nat.zero_add]; exact rfl))
   (fun L v W4 => Below w.heap.size w W4 ∧ Kx [w.heap.size + 1 + 1 + 1, w.heap.size + 1 + 1 + 1 + 1] wr W4 ∧ (∃ g, Blk W4 (w.heap.size + 1 + 1 + 1) 512 26 (g)) ∧ (L 2 = false → Blk W4 (w.heap.size + 1 + 1 + 1) 512 26 (fl 64 (fun _ _ => 0))) ∧ (L 2 = true → Blk W4 (w.heap.size + 1 + 1 + 1) 512 26 (fl 64 Q)) ∧ (∃ g, Blk W4 (w.heap.size + 1 + 1 + 1 + 1) 512 26 (g)) ∧ (L 3 = false → Blk W4 (w.heap.size + 1 + 1 + 1 + 1) 512 26 (fl 64 (fun _ _ => 0))) ∧ (L 3 = true → Blk W4 (w.heap.size + 1 + 1 + 1 + 1) 512 26 (fl 64 F)) ∧ VF L v [some (.agg (zb 512 (fl 64 Q))), some (.agg (zb 512 (fl 64 F))), none, none]) ?_ ?_ ?_
  · intro v hv0
    exact ⟨hb.drew, Kx.start _ _, ⟨_, B3.drew⟩, (fun _ => B3.drew), (fun h => by cases h), ⟨_, B4.drew⟩, (fun _ => B4.drew), (fun h => by cases h), VF.start⟩
  · refine (.cons rfl ?_ (.cons rfl ?_ (.cons rfl ?_ (.cons rfl ?_ (.nil _)))))
    all_goals intro L v W4 hd hn ⟨hB, hX, x3, q3, n3, x4, q4, n4, V⟩ K hK
    · refine wp_load_any 26 _ rfl _ rfl 512 26 _ (B5.kx hX (by simp <;> omega)) _ Try.underlying26 rfl Try.size26 ?_
      exact hK _ _ _ rfl ⟨hB, hX, x3, q3, n3, x4, q4, n4, V.step 0 rfl⟩
    · refine wp_load_any 26 _ rfl _ rfl 512 26 _ (B1.kx hX (by simp <;> omega)) _ Try.underlying26 rfl Try.size26 ?_
      exact hK _ _ _ rfl ⟨hB, hX, x3, q3, n3, x4, q4, n4, V.step 1 rfl⟩
    · have e0 := V.at (zdq hd 0 rfl) rfl
      obtain ⟨gz, hk⟩ := x3
      refine zsb 26 _ _ rfl _ 512 (fl 64 Q) rfl e0 26 gz hk Try.size26 ?_
      exact hK _ undef _ rfl ⟨zr hB (by omega) _, hX.row (by simp) _, ⟨_, hk.row _⟩, (fun h => absurd h (by simp [setL])), (fun _ => hk.row _), (let ⟨g, h⟩ := x4; ⟨g, (h).rowOther (by omega)⟩), (fun h => (q4 h).rowOther (by omega)), (fun h => (n4 h).rowOther (by omega)), V.skip 2 rfl⟩
    have e1 := V.at (zdq hd 1 rfl) rfl
    obtain ⟨gz, hk⟩ := x4
    refine zsb 26 _ _ rfl _ 512 (fl 64 F) rfl e1 26 gz hk Try.size26 ?_
    exact hK _ undef _ rfl ⟨zr hB (by omega) _, hX.row (by simp) _, (let ⟨g, h⟩ := x3; ⟨g, (h).rowOther (by omega)⟩), (fun h => (q3 h).rowOther (by omega)), (fun h => (n3 h).rowOther (by omega)), ⟨_, hk.row _⟩, (fun h => absurd h (by simp [setL])), (fun _ => hk.row _), V.skip 3 rfl⟩
  intro L v W4 hL ⟨hB, hX, x3, q3, n3, x4, q4, n4, V⟩
  have r3 := n3 (hL 2 (by decide))
  have r4 := n4 (hL 3 (by decide))
  have e0 := V.at (hL 0 (by decide)) rfl
  have e1 := V.at (hL 1 (by decide)) rfl
  clear hL x3 q3 n3 x4 q4 n4 V
  replace B0 := B0.kx hX (by simp <;> omega)
  replace B1 := B1.kx hX (by simp <;> omega)
  replace B2 := B2.kx hX (by simp <;> omega)
  replace B5 := B5.kx hX (by simp <;> omega)
  clear hX
  simp only [Exit.then, e0, e1]
  clear e0 e1
  replace B3 := r3
  clear r3
  replace B4 := r4
  clear r4
  replace hb := hB
  clear hB
  clear hbase lt_B0 lt_B1 lt_B2 lt_B3 lt_B4 lt_B5
  go_wp2_with fail
  refine bodyPost_ret (results_any2 rfl _ _ _ 512 _ _ _ 512 _ _ rfl B3 _ Try.underlying26 rfl Try.size26 rfl B4 _ Try.underlying26 rfl Try.size26) rfl ⟨by rw [HV1.out, ← HV2.out], hb⟩
end Go.Proofs.Yteloknnooebabaa
namespace Go.Proofs.Yteloknnooebabaa
open Go Go.RowKit
attribute [local irreducible] deg addK okA flV skA skD
noncomputable def dlV (p : Int) (m : Nat → Nat) (F G : Nat → Nat → Nat) : ((Nat → Nat → Nat) × (Nat → Nat → Nat)) × Int := if ckS p m [F, G] = 0 then (if skD G < 0 then ((fun _ _ => 0, fun _ _ => 0), 5) else (dql p.toNat m (deg m).toNat F G, 0)) else ((fun _ _ => 0, fun _ _ => 0), 1)
theorem dlV_0 {n d : Nat} {m : Nat → Nat} {F G : Nat → Nat → Nat} (h : ckS (n : Int) m [F, G] = 0) (hd : deg m = (d : Int)) (h2 : ¬ skD G < 0) : dlV (n : Int) m F G = (dql n m d F G, 0) := by unfold dlV; rw [if_pos h, if_neg h2, hd]; rfl
theorem dlV_5 {p : Int} {m : Nat → Nat} {F G : Nat → Nat → Nat} (h : ckS p m [F, G] = 0) (h2 : skD G < 0) : dlV p m F G = ((fun _ _ => 0, fun _ _ => 0), 5) := by unfold dlV; rw [if_pos h, if_pos h2]
theorem dlV_1 {p : Int} {m : Nat → Nat} {F G : Nat → Nat → Nat} (h : ckS p m [F, G] = 1) : dlV p m F G = ((fun _ _ => 0, fun _ _ => 0), 1) := if_neg (by omega)
attribute [irreducible] dlV
theorem spec_DivideLeft_any (p : Int) (m : Nat → Nat) (F G : Nat → Nat → Nat) (hm : byte m) (hF : ∀ i, byte (F i)) (hG : ∀ i, byte (G i)) (w : World) :
 Calls Try.prog 36 #[.int .i64 p, .agg (zb 64 m), .agg (zb 512 (fl 64 F)), .agg (zb 512 (fl 64 G))] w fun e w' => e = .returned (.tuple #[.agg (zb 512 (fl 64 (dlV p m F G).1.1)), .agg (zb 512 (fl 64 (dlV p m F G).1.2)), .int .i64 (dlV p m F G).2]) ∧ Below w.heap.size w w' := by
 go_enter Try.func36, Try.ntmps36
 go_upto_region 1 with (fail)
 rw [← zero512]
 obtain ⟨W1, hwo⟩ : ∃ v : World, v = (((((w.alloc (.cells (zb 64 (m)) 24)).alloc (.cells (zb 512 (fl 64 F)) 26)).alloc (.cells (zb 512 (fl 64 G)) 26)).alloc (.cells (zb 512 (fl 64 (fun _ _ => 0))) 26)).alloc (.cells (zb 512 (fl 64 (fun _ _ => 0))) 26)) := ⟨_, rfl⟩
 have B0 : Blk W1 (w.heap.size) 64 24 (m) := by subst hwo; have := (((((Blk.new w 64 24 (m)).alloc (.cells (zb 512 (fl 64 F)) 26)).alloc (.cells (zb 512 (fl 64 G)) 26)).alloc (.cells (zb 512 (fl 64 (fun _ _ => 0))) 26)).alloc (.cells (zb 512 (fl 64 (fun _ _ => 0))) 26)); simpa using this
 have B1 : Blk W1 (w.heap.size + 1) 512 26 (fl 64 F) := by subst hwo; have := ((((Blk.new (w.alloc (.cells (zb 64 (m)) 24)) 512 26 (fl 64 F)).alloc (.cells (zb 512 (fl 64 G)) 26)).alloc (.cells (zb 512 (fl 64 (fun _ _ => 0))) 26)).alloc (.cells (zb 512 (fl 64 (fun _ _ => 0))) 26)); simpa using this
 have B2 : Blk W1 (w.heap.size + 1 + 1) 512 26 (fl 64 G) := by subst hwo; have := (((Blk.new ((w.alloc (.cells (zb 64 (m)) 24)).alloc (.cells (zb 512 (fl 64 F)) 26)) 512 26 (fl 64 G)).alloc (.cells (zb 512 (fl 64 (fun _ _ => 0))) 26)).alloc (.cells (zb 512 (fl 64 (fun _ _ => 0))) 26)); simpa using this
 have B3 : Blk W1 (w.heap.size + 1 + 1 + 1) 512 26 (fl 64 (fun _ _ => 0)) := by subst hwo; have := ((Blk.new (((w.alloc (.cells (zb 64 (m)) 24)).alloc (.cells (zb 512 (fl 64 F)) 26)).alloc (.cells (zb 512 (fl 64 G)) 26)) 512 26 (fl 64 (fun _ _ => 0))).alloc (.cells (zb 512 (fl 64 (fun _ _ => 0))) 26)); simpa using this
 have B4 : Blk W1 (w.heap.size + 1 + 1 + 1 + 1) 512 26 (fl 64 (fun _ _ => 0)) := by subst hwo; have := (Blk.new ((((w.alloc (.cells (zb 64 (m)) 24)).alloc (.cells (zb 512 (fl 64 F)) 26)).alloc (.cells (zb 512 (fl 64 G)) 26)).alloc (.cells (zb 512 (fl 64 (fun _ _ => 0))) 26)) 512 26 (fl 64 (fun _ _ => 0))); simpa using this
 have hb : Below w.heap.size w W1 := by subst hwo; exact ((((((Below.refl _ _).alloc (Nat.le_refl _) _).alloc (by simp) _).alloc (by simp; omega) _).alloc (by simp; omega) _).alloc (by simp; omega) _)
 rw [← hwo]
 clear hwo
 rcases ckS_two p m [F, G] with hc | hc
 · by_cases hz : skD G < 0
   · skip
     have HV := Lib.hid (dlV_5 hc hz)
     have HC := Lib.hid (cdV_5 hc hz)
     go_upto_region 3 with (first | (refine zla (.tmp 5) B0 Try.underlying24 Try.size24 ?_) | (refine zla (.tmp 6) B1 Try.underlying26 Try.size26 ?_) | (refine zla (.tmp 7) B2 Try.underlying26 Try.size26 ?_) | (go_at_call 101; refine (l03Divided_any p m F G hm hF hG _).mono ?_; rintro e W2 ⟨rfl, hW2⟩; replace B0 := B0.zw hW2; replace B1 := B1.zw hW2; replace B2 := B2.zw hW2; replace B3 := B3.zw hW2; replace B4 := B4.zw hW2; replace hb := (hb).trans (hW2.mono (hb).size); rw [HC.out]))
     have lt_B0 := B0.lt
     have lt_B1 := B1.lt
     have lt_B2 := B2.lt
     have lt_B3 := B3.lt
     have lt_B4 := B4.lt
     go_wp2_with (first | rw [← z64] | rw [← zero512] | (refine zsr (.tmp 8) (.tmp 21) (fl 64 (fun _ _ => 0)) B3 Try.size26 ?_; try simp only [Act.put]) | (refine wpList_store_blk rfl 26 (.tmp 9) (.tmp 22) rfl _ 512 (fl 64 (fun _ _ => 0)) rfl rfl 26 _ ((B4.rowOther (by omega))) Try.size26 ?_; try simp only [Act.put]; go_wp2_with fail))
     obtain ⟨W3, hwo, hzQ⟩ : ∃ v : World, v = ((W2.setRow (w.heap.size + 1 + 1 + 1) (zb 512 (fl 64 (fun _ _ => 0)))).setRow (w.heap.size + 1 + 1 + 1 + 1) (zb 512 (fl 64 (fun _ _ => 0)))) ∧ Blk v (w.heap.size) 64 24 (m) ∧ Blk v (w.heap.size + 1) 512 26 (fl 64 F) ∧ Blk v (w.heap.size + 1 + 1) 512 26 (fl 64 G) ∧ Blk v (w.heap.size + 1 + 1 + 1) 512 26 (fl 64 (fun _ _ => 0)) ∧ Blk v (w.heap.size + 1 + 1 + 1 + 1) 512 26 (fl 64 (fun _ _ => 0)) ∧ Below w.heap.size w v := ⟨_, rfl, ((B0.rowOther (by omega)).rowOther (by omega)), ((B1.rowOther (by omega)).rowOther (by omega)), ((B2.rowOther (by omega)).rowOther (by omega)), ((B3.row (fl 64 (fun _ _ => 0))).rowOther (by omega)), ((B4.rowOther (by omega)).row (fl 64 (fun _ _ => 0))), (zr (zr hb (by omega) _) (by omega) _)⟩
     rw [← hwo]
     clear hwo B0 B1 B2 B3 B4 hb
     obtain ⟨B0, B1, B2, B3, B4, hb⟩ := hzQ
     try simp only [Act.put, pA, pB, pC]
     refine bodyPost_ret (results_any2t rfl _ _ _ 512 _ _ _ 512 _ _ rfl B3 _ Try.underlying26 rfl Try.size26 rfl B4 _ Try.underlying26 rfl Try.size26) rfl ⟨by first | (rw [HV.out]; rfl) | rw [HV.out], hb⟩
   obtain ⟨n, rfl, hpr, lm, ⟨d, hmon, hd1, hd4⟩, hl⟩ := ckS_fld hc
   have hd := hmon.1
   have lF : ∀ i, i < 8 → ∀ j, j < 64 → F i j < n := fun i hi => (hl F (by simp) i hi).1
   have rF : rsk n m F := ckS_rsk hl (by simp)
   have rG : rsk n m G := ckS_rsk hl (by simp)
   have hirr := ckS_irr hc hmon
   obtain ⟨b1, b2⟩ := zsd G
   have HV := Lib.hid (dlV_0 hc hd hz)
   have HC := Lib.hid (cdV_0 hc hz)
   have HDV := Lib.hid (fun W => l03Left_any n m F G W hpr lm d hmon hirr (by omega) rF rG (by omega))
   clear hc hl lF rF rG hirr hmon hz b1 b2 lm hpr hd
   go_upto_region 4 with (first | (refine zla (.tmp 5) B0 Try.underlying24 Try.size24 ?_) | (refine zla (.tmp 6) B1 Try.underlying26 Try.size26 ?_) | (refine zla (.tmp 7) B2 Try.underlying26 Try.size26 ?_) | (go_at_call 101; refine (l03Divided_any (n : Int) m F G hm hF hG _).mono ?_; rintro e W2 ⟨rfl, hW2⟩; replace B0 := B0.zw hW2; replace B1 := B1.zw hW2; replace B2 := B2.zw hW2; replace B3 := B3.zw hW2; replace B4 := B4.zw hW2; replace hb := (hb).trans (hW2.mono (hb).size); rw [HC.out]))
   have lt_B0 := B0.lt
   have lt_B1 := B1.lt
   have lt_B2 := B2.lt
   have lt_B3 := B3.lt
   have lt_B4 := B4.lt
   go_upto_region 5 with (first | rw [← z64] | rw [← zero512] | (refine zla (.tmp 5) B0 Try.underlying24 Try.size24 ?_) | (refine zla (.tmp 6) B1 Try.underlying26 Try.size26 ?_) | (refine zla (.tmp 7) B2 Try.underlying26 Try.size26 ?_) | (go_at_call 105; refine (HDV.out _).mono ?_; rintro e W3 ⟨rfl, hW3⟩; replace B0 := B0.zw hW3; replace B1 := B1.zw hW3; replace B2 := B2.zw hW3; replace B3 := B3.zw hW3; replace B4 := B4.zw hW3; replace hb := (hb).trans (hW3.mono (hb).size)) | (refine wpList_store_blk rfl 26 (.tmp 12) (.tmp 30) rfl _ 512 (fl 64 (dql n m d F G).1) rfl rfl 26 _ (((Blk.new W3 512 26 (fl 64 (fun _ _ => 0))).alloc (.cells (zb 512 (fl 64 (fun _ _ => 0))) 26))) Try.size26 ?_; try simp only [Act.put]) | (refine wpList_store_blk rfl 26 (.tmp 13) (.tmp 31) rfl _ 512 (fl 64 (dql n m d F G).2) rfl rfl 26 _ (((show Blk ((W3.alloc (.cells (zb 512 (fl 64 (fun _ _ => 0))) 26)).alloc (.cells (zb 512 (fl 64 (fun _ _ => 0))) 26)) (W3.heap.size + 1) 512 26 (fl 64 (fun _ _ => 0)) by have := Blk.new (W3.alloc (.cells (zb 512 (fl 64 (fun _ _ => 0))) 26)) 512 26 (fl 64 (fun _ _ => 0)); simpa using this).rowOther (by omega))) Try.size26 ?_; try simp only [Act.put]))
   have lt_B0 := B0.lt
   have lt_B1 := B1.lt
   have lt_B2 := B2.lt
   have lt_B3 := B3.lt
   have lt_B4 := B4.lt
   have lhb := hb.size
   obtain ⟨W4, hwo, hzQ⟩ : ∃ v : World, v = ((((W3.alloc (.cells (zb 512 (fl 64 (fun _ _ => 0))) 26)).alloc (.cells (zb 512 (fl 64 (fun _ _ => 0))) 26)).setRow (W3.heap.size) (zb 512 (fl 64 (dql n m d F G).1))).setRow (W3.heap.size + 1) (zb 512 (fl 64 (dql n m d F G).2))) ∧ Blk v (w.heap.size) 64 24 (m) ∧ Blk v (w.heap.size + 1) 512 26 (fl 64 F) ∧ Blk v (w.heap.size + 1 + 1) 512 26 (fl 64 G) ∧ Blk v (w.heap.size + 1 + 1 + 1) 512 26 (fl 64 (fun _ _ => 0)) ∧ Blk v (w.heap.size + 1 + 1 + 1 + 1) 512 26 (fl 64 (fun _ _ => 0)) ∧ Blk v (W3.heap.size) 512 26 (fl 64 (dql n m d F G).1) ∧ Blk v (W3.heap.size + 1) 512 26 (fl 64 (dql n m d F G).2) ∧ Below w.heap.size w v := ⟨_, rfl, ((((B0.alloc (.cells (zb 512 (fl 64 (fun _ _ => 0))) 26)).alloc (.cells (zb 512 (fl 64 (fun _ _ => 0))) 26)).rowOther (by omega)).rowOther (by omega)), ((((B1.alloc (.cells (zb 512 (fl 64 (fun _ _ => 0))) 26)).alloc (.cells (zb 512 (fl 64 (fun _ _ => 0))) 26)).rowOther (by omega)).rowOther (by omega)), ((((B2.alloc (.cells (zb 512 (fl 64 (fun _ _ => 0))) 26)).alloc (.cells (zb 512 (fl 64 (fun _ _ => 0))) 26)).rowOther (by omega)).rowOther (by omega)), ((((B3.alloc (.cells (zb 512 (fl 64 (fun _ _ => 0))) 26)).alloc (.cells (zb 512 (fl 64 (fun _ _ => 0))) 26)).rowOther (by omega)).rowOther (by omega)), ((((B4.alloc (.cells (zb 512 (fl 64 (fun _ _ => 0))) 26)).alloc (.cells (zb 512 (fl 64 (fun _ _ => 0))) 26)).rowOther (by omega)).rowOther (by omega)), ((((Blk.new W3 512 26 (fl 64 (fun _ _ => 0))).alloc (.cells (zb 512 (fl 64 (fun _ _ => 0))) 26)).row (fl 64 (dql n m d F G).1)).rowOther (by omega)), (((show Blk ((W3.alloc (.cells (zb 512 (fl 64 (fun _ _ => 0))) 26)).alloc (.cells (zb 512 (fl 64 (fun _ _ => 0))) 26)) (W3.heap.size + 1) 512 26 (fl 64 (fun _ _ => 0)) by have := Blk.new (W3.alloc (.cells (zb 512 (fl 64 (fun _ _ => 0))) 26)) 512 26 (fl 64 (fun _ _ => 0)); simpa using this).rowOther (by omega)).row (fl 64 (dql n m d F G).2)), (zr (zr ((hb.alloc (by have := hb.size; simp; omega) (.cells (zb 512 (fl 64 (fun _ _ => 0))) 26)).alloc (by have := hb.size; simp; omega) (.cells (zb 512 (fl 64 (fun _ _ => 0))) 26)) (by omega) _) (by omega) _)⟩
   rw [← hwo]
   clear hwo B0 B1 B2 B3 B4 hb
   obtain ⟨B0, B1, B2, B3, B4, B5, B6, hb⟩ := hzQ
   obtain ⟨N1, hNN⟩ : ∃ n : Nat, n = W3.heap.size := ⟨_, rfl⟩
   rw [← hNN] at lt_B0 lt_B1 lt_B2 lt_B3 lt_B4 lhb B5 B6 ⊢
   clear hNN
   have zN1_0 := lt_B0
   have zN1_1 := lt_B1
   have zN1_2 := lt_B2
   have zN1_3 := lt_B3
   have zN1_4 := lt_B4
   have zN1 := lhb
   clear lt_B0 lt_B1 lt_B2 lt_B3 lt_B4 lhb
   try simp only [Act.put, pA, pB, pC]
   have lt_B0 : (w.heap.size) < W4.heap.size := B0.lt
   have lt_B1 : (w.heap.size + 1) < W4.heap.size := B1.lt
   have lt_B2 : (w.heap.size + 1 + 1) < W4.heap.size := B2.lt
   have lt_B3 : (w.heap.size + 1 + 1 + 1) < W4.heap.size := B3.lt
   have lt_B4 : (w.heap.size + 1 + 1 + 1 + 1) < W4.heap.size := B4.lt
   have lt_B5 : (N1) < W4.heap.size := B5.lt
   have lt_B6 : (N1 + 1) < W4.heap.size := B6.lt
   have hbase : w.heap.size ≤ W4.heap.size := hb.size
   refine zq Try.mixed (by kernel_rfl) (by kernel_rfl) (fun v => by (simp only [frL, Act.put, pA, pB, pC, Nat.reduceAdd, Nat.zero_add]; exact rfl))
    (fun L v W5 => Below w.heap.size w W5 ∧ Kx [w.heap.size + 1 + 1 + 1, w.heap.size + 1 + 1 + 1 + 1] W4 W5 ∧ (∃ g, Blk W5 (w.heap.size + 1 + 1 + 1) 512 26 (g)) ∧ (L 2 = false → Blk W5 (w.heap.size + 1 + 1 + 1) 512 26 (fl 64 (fun _ _ => 0))) ∧ (L 2 = true → Blk W5 (w.heap.size + 1 + 1 + 1) 512 26 (fl 64 (dql n m d F G).1)) ∧ (∃ g, Blk W5 (w.heap.size + 1 + 1 + 1 + 1) 512 26 (g)) ∧ (L 3 = false → Blk W5 (w.heap.size + 1 + 1 + 1 + 1) 512 26 (fl 64 (fun _ _ => 0))) ∧ (L 3 = true → Blk W5 (w.heap.size + 1 + 1 + 1 + 1) 512 26 (fl 64 (dql n m d F G).2)) ∧ VF L v [some (.agg (zb 512 (fl 64 (dql n m d F G).1))), some (.agg (zb 512 (fl 64 (dql n m d F G).2))), none, none, some (.int .i64 0)]) ?_ ?_ ?_
   · intro v hv0
     exact ⟨hb.drew, Kx.start _ _, ⟨_, B3.drew⟩, (fun _ => B3.drew), (fun h => by cases h), ⟨_, B4.drew⟩, (fun _ => B4.drew), (fun h => by cases h), VF.start⟩
   · refine (.cons rfl ?_ (.cons rfl ?_ (.cons rfl ?_ (.cons rfl ?_ (.cons rfl ?_ (.nil _))))))
     all_goals intro L v W5 hd hn ⟨hB, hX, x3, q3, n3, x4, q4, n4, V⟩ K hK
     · refine wp_load_any 26 _ rfl _ rfl 512 26 _ (B5.kx hX (by simp <;> omega)) _ Try.underlying26 rfl Try.size26 ?_
       exact hK _ _ _ rfl ⟨hB, hX, x3, q3, n3, x4, q4, n4, V.step 0 rfl⟩
     · refine wp_load_any 26 _ rfl _ rfl 512 26 _ (B6.kx hX (by simp <;> omega)) _ Try.underlying26 rfl Try.size26 ?_
       exact hK _ _ _ rfl ⟨hB, hX, x3, q3, n3, x4, q4, n4, V.step 1 rfl⟩
     · have e0 := V.at (zdq hd 0 rfl) rfl
       obtain ⟨gz, hk⟩ := x3
       refine zsb 26 _ _ rfl _ 512 (fl 64 (dql n m d F G).1) rfl e0 26 gz hk Try.size26 ?_
       exact hK _ undef _ rfl ⟨zr hB (by omega) _, hX.row (by simp) _, ⟨_, hk.row _⟩, (fun h => absurd h (by simp [setL])), (fun _ => hk.row _), (let ⟨g, h⟩ := x4; ⟨g, (h).rowOther (by omega)⟩), (fun h => (q4 h).rowOther (by omega)), (fun h => (n4 h).rowOther (by omega)), V.skip 2 rfl⟩
     · have e1 := V.at (zdq hd 1 rfl) rfl
       obtain ⟨gz, hk⟩ := x4
       refine zsb 26 _ _ rfl _ 512 (fl 64 (dql n m d F G).2) rfl e1 26 gz hk Try.size26 ?_
       exact hK _ undef _ rfl ⟨zr hB (by omega) _, hX.row (by simp) _, (let ⟨g, h⟩ := x3; ⟨g, (h).rowOther (by omega)⟩), (fun h => (q3 h).rowOther (by omega)), (fun h => (n3 h).rowOther (by omega)), ⟨_, hk.row _⟩, (fun h => absurd h (by simp [setL])), (fun _ => hk.row _), V.skip 3 rfl⟩
     go_wp2_with fail
     exact hK _ (.int .i64 0) _ (by simp only [Act.put, pA, pB, pC ]) ⟨hB, hX, x3, q3, n3, x4, q4, n4, V.step 4 rfl⟩
   intro L v W5 hL ⟨hB, hX, x3, q3, n3, x4, q4, n4, V⟩
   have r3 := n3 (hL 2 (by decide))
   have r4 := n4 (hL 3 (by decide))
   have e0 := V.at (hL 0 (by decide)) rfl
   have e1 := V.at (hL 1 (by decide)) rfl
   have e4 := V.at (hL 4 (by decide)) rfl
   clear hL x3 q3 n3 x4 q4 n4 V
   replace B0 := B0.kx hX (by simp <;> omega)
   replace B1 := B1.kx hX (by simp <;> omega)
   replace B2 := B2.kx hX (by simp <;> omega)
   replace B5 := B5.kx hX (by simp <;> omega)
   replace B6 := B6.kx hX (by simp <;> omega)
   clear hX
   simp only [Exit.then, e0, e1, e4]
   clear e0 e1 e4
   replace B3 := r3
   clear r3
   replace B4 := r4
   clear r4
   replace hb := hB
   clear hB
   clear hbase lt_B0 lt_B1 lt_B2 lt_B3 lt_B4 lt_B5 lt_B6
   go_wp2_with fail
   refine bodyPost_ret (results_any2t rfl _ _ _ 512 _ _ _ 512 _ _ rfl B3 _ Try.underlying26 rfl Try.size26 rfl B4 _ Try.underlying26 rfl Try.size26) rfl ⟨by first | (rw [HV.out]; rfl) | rw [HV.out], hb⟩
 skip
 have HV := Lib.hid (dlV_1 hc)
 have HC := Lib.hid (cdV_1 hc)
 go_upto_region 3 with (first | (refine zla (.tmp 5) B0 Try.underlying24 Try.size24 ?_) | (refine zla (.tmp 6) B1 Try.underlying26 Try.size26 ?_) | (refine zla (.tmp 7) B2 Try.underlying26 Try.size26 ?_) | (go_at_call 101; refine (l03Divided_any p m F G hm hF hG _).mono ?_; rintro e W2 ⟨rfl, hW2⟩; replace B0 := B0.zw hW2; replace B1 := B1.zw hW2; replace B2 := B2.zw hW2; replace B3 := B3.zw hW2; replace B4 := B4.zw hW2; replace hb := (hb).trans (hW2.mono (hb).size); rw [HC.out]))
 go_wp2_with (first | rw [← z64] | rw [← zero512] | (refine zsr (.tmp 8) (.tmp 21) (fl 64 (fun _ _ => 0)) B3 Try.size26 ?_; try simp only [Act.put]) | (refine wpList_store_blk rfl 26 (.tmp 9) (.tmp 22) rfl _ 512 (fl 64 (fun _ _ => 0)) rfl rfl 26 _ ((B4.rowOther (by omega))) Try.size26 ?_; try simp only [Act.put]; go_wp2_with fail))
 obtain ⟨W3, hwo, hzQ⟩ : ∃ v : World, v = ((W2.setRow (w.heap.size + 1 + 1 + 1) (zb 512 (fl 64 (fun _ _ => 0)))).setRow (w.heap.size + 1 + 1 + 1 + 1) (zb 512 (fl 64 (fun _ _ => 0)))) ∧ Blk v (w.heap.size) 64 24 (m) ∧ Blk v (w.heap.size + 1) 512 26 (fl 64 F) ∧ Blk v (w.heap.size + 1 + 1) 512 26 (fl 64 G) ∧ Blk v (w.heap.size + 1 + 1 + 1) 512 26 (fl 64 (fun _ _ => 0)) ∧ Blk v (w.heap.size + 1 + 1 + 1 + 1) 512 26 (fl 64 (fun _ _ => 0)) ∧ Below w.heap.size w v := ⟨_, rfl, ((B0.rowOther (by omega)).rowOther (by omega)), ((B1.rowOther (by omega)).rowOther (by omega)), ((B2.rowOther (by omega)).rowOther (by omega)), ((B3.row (fl 64 (fun _ _ => 0))).rowOther (by omega)), ((B4.rowOther (by omega)).row (fl 64 (fun _ _ => 0))), (zr (zr hb (by omega) _) (by omega) _)⟩
 rw [← hwo]
 clear hwo B0 B1 B2 B3 B4 hb
 obtain ⟨B0, B1, B2, B3, B4, hb⟩ := hzQ
 try simp only [Act.put, pA, pB, pC]
 refine bodyPost_ret (results_any2t rfl _ _ _ 512 _ _ _ 512 _ _ rfl B3 _ Try.underlying26 rfl Try.size26 rfl B4 _ Try.underlying26 rfl Try.size26) rfl ⟨by first | (rw [HV.out]; rfl) | rw [HV.out], hb⟩
theorem divideSkewsL_any (p : Int) (m : Nat → Nat) (F G : Nat → Nat → Nat) (hm : byte m) (hF : ∀ i, byte (F i)) (hG : ∀ i, byte (G i)) (w : World) :
 Calls Try.prog 103 #[.int .i64 p, .agg (zb 64 m), .agg (zb 512 (fl 64 F)), .agg (zb 512 (fl 64 G)), .func (.func 106) #[] #[]] w fun e w' => e = .returned (.tuple #[.agg (zb 512 (fl 64 (dlV p m F G).1.1)), .agg (zb 512 (fl 64 (dlV p m F G).1.2)), .int .i64 (dlV p m F G).2]) ∧ Below w.heap.size w w' := by
 go_enter Try.func103, Try.ntmps103
 go_upto_region 1 with (fail)
 rw [← zero512]
 obtain ⟨W1, hwo⟩ : ∃ v : World, v = (((((w.alloc (.cells (zb 64 (m)) 24)).alloc (.cells (zb 512 (fl 64 F)) 26)).alloc (.cells (zb 512 (fl 64 G)) 26)).alloc (.cells (zb 512 (fl 64 (fun _ _ => 0))) 26)).alloc (.cells (zb 512 (fl 64 (fun _ _ => 0))) 26)) := ⟨_, rfl⟩
 have B0 : Blk W1 (w.heap.size) 64 24 (m) := by subst hwo; have := (((((Blk.new w 64 24 (m)).alloc (.cells (zb 512 (fl 64 F)) 26)).alloc (.cells (zb 512 (fl 64 G)) 26)).alloc (.cells (zb 512 (fl 64 (fun _ _ => 0))) 26)).alloc (.cells (zb 512 (fl 64 (fun _ _ => 0))) 26)); simpa using this
 have B1 : Blk W1 (w.heap.size + 1) 512 26 (fl 64 F) := by subst hwo; have := ((((Blk.new (w.alloc (.cells (zb 64 (m)) 24)) 512 26 (fl 64 F)).alloc (.cells (zb 512 (fl 64 G)) 26)).alloc (.cells (zb 512 (fl 64 (fun _ _ => 0))) 26)).alloc (.cells (zb 512 (fl 64 (fun _ _ => 0))) 26)); simpa using this
 have B2 : Blk W1 (w.heap.size + 1 + 1) 512 26 (fl 64 G) := by subst hwo; have := (((Blk.new ((w.alloc (.cells (zb 64 (m)) 24)).alloc (.cells (zb 512 (fl 64 F)) 26)) 512 26 (fl 64 G)).alloc (.cells (zb 512 (fl 64 (fun _ _ => 0))) 26)).alloc (.cells (zb 512 (fl 64 (fun _ _ => 0))) 26)); simpa using this
 have B3 : Blk W1 (w.heap.size + 1 + 1 + 1) 512 26 (fl 64 (fun _ _ => 0)) := by subst hwo; have := ((Blk.new (((w.alloc (.cells (zb 64 (m)) 24)).alloc (.cells (zb 512 (fl 64 F)) 26)).alloc (.cells (zb 512 (fl 64 G)) 26)) 512 26 (fl 64 (fun _ _ => 0))).alloc (.cells (zb 512 (fl 64 (fun _ _ => 0))) 26)); simpa using this
 have B4 : Blk W1 (w.heap.size + 1 + 1 + 1 + 1) 512 26 (fl 64 (fun _ _ => 0)) := by subst hwo; have := (Blk.new ((((w.alloc (.cells (zb 64 (m)) 24)).alloc (.cells (zb 512 (fl 64 F)) 26)).alloc (.cells (zb 512 (fl 64 G)) 26)).alloc (.cells (zb 512 (fl 64 (fun _ _ => 0))) 26)) 512 26 (fl 64 (fun _ _ => 0))); simpa using this
 have hb : Below w.heap.size w W1 := by subst hwo; exact ((((((Below.refl _ _).alloc (Nat.le_refl _) _).alloc (by simp) _).alloc (by simp; omega) _).alloc (by simp; omega) _).alloc (by simp; omega) _)
 rw [← hwo]
 clear hwo
 rcases ckS_two p m [F, G] with hc | hc
 · by_cases hz : skD G < 0
   · have HV := Lib.hid (dlV_5 hc hz)
     have hgd := Try.noGuard26
     have heq := fun W => run_equalIn_sk (P := Try.prog) W 9997 26 24 5 G (fun _ _ => 0) Try.underlying26 Try.underlying24 Try.underlying5 Try.size24 Try.size5
     rw [skE_zero, decide_eq_true hz] at heq
     go_upto_region 4 with (first | (refine zla (.tmp 6) B0 Try.underlying24 Try.size24 ?_) | (refine zla (.tmp 7) B1 Try.underlying26 Try.size26 ?_) | (refine zla (.tmp 8) B2 Try.underlying26 Try.size26 ?_) | (refine zbk rfl 170 _ [F, G] rfl 26 Try.underlying170 Try.elem26 (by simp) (by simp) rfl ?_; intro wa hps hba) | (go_at_call 94; refine (checkSkews_any _ m hm [F, G] (by simp [hF, hG]) (by simp) _ _ hps).mono ?_; rintro e W2 ⟨rfl, hbb⟩; rw [hc]))
     have hBB : Below W1.heap.size W1 W2 := hba.trans (hbb.mono hba.size)
     replace B0 := B0.zw hBB
     replace B1 := B1.zw hBB
     replace B2 := B2.zw hBB
     replace B3 := B3.zw hBB
     replace B4 := B4.zw hBB
     replace hb := hb.trans (hBB.mono hb.size)
     clear hBB hba hbb hps
     clear hc
     go_upto_region 5 with (first | rw [← zero512] | (refine zla (.tmp 8) B2 Try.underlying26 Try.size26 ?_))
     clear heq hgd
     have lt_B0 := B0.lt
     have lt_B1 := B1.lt
     have lt_B2 := B2.lt
     have lt_B3 := B3.lt
     have lt_B4 := B4.lt
     go_wp2_with (first | rw [← z64] | rw [← zero512] | (refine zsr (.tmp 10) (.tmp 30) (fl 64 (fun _ _ => 0)) B3 Try.size26 ?_; try simp only [Act.put]) | (refine wpList_store_blk rfl 26 (.tmp 11) (.tmp 31) rfl _ 512 (fl 64 (fun _ _ => 0)) rfl rfl 26 _ ((B4.rowOther (by omega))) Try.size26 ?_; try simp only [Act.put]; go_wp2_with fail))
     obtain ⟨W3, hwo, hzQ⟩ : ∃ v : World, v = ((W2.setRow (w.heap.size + 1 + 1 + 1) (zb 512 (fl 64 (fun _ _ => 0)))).setRow (w.heap.size + 1 + 1 + 1 + 1) (zb 512 (fl 64 (fun _ _ => 0)))) ∧ Blk v (w.heap.size) 64 24 (m) ∧ Blk v (w.heap.size + 1) 512 26 (fl 64 F) ∧ Blk v (w.heap.size + 1 + 1) 512 26 (fl 64 G) ∧ Blk v (w.heap.size + 1 + 1 + 1) 512 26 (fl 64 (fun _ _ => 0)) ∧ Blk v (w.heap.size + 1 + 1 + 1 + 1) 512 26 (fl 64 (fun _ _ => 0)) ∧ Below w.heap.size w v := ⟨_, rfl, ((B0.rowOther (by omega)).rowOther (by omega)), ((B1.rowOther (by omega)).rowOther (by omega)), ((B2.rowOther (by omega)).rowOther (by omega)), ((B3.row (fl 64 (fun _ _ => 0))).rowOther (by omega)), ((B4.rowOther (by omega)).row (fl 64 (fun _ _ => 0))), (zr (zr hb (by omega) _) (by omega) _)⟩
     rw [← hwo]
     clear hwo B0 B1 B2 B3 B4 hb
     obtain ⟨B0, B1, B2, B3, B4, hb⟩ := hzQ
     try simp only [Act.put, pA, pB, pC]
     refine bodyPost_ret (results_any2t rfl _ _ _ 512 _ _ _ 512 _ _ rfl B3 _ Try.underlying26 rfl Try.size26 rfl B4 _ Try.underlying26 rfl Try.size26) rfl ⟨by first | (rw [HV.out]; rfl) | rw [HV.out], hb⟩
   obtain ⟨n, rfl, hpr, lm, ⟨d, hmon, hd1, hd4⟩, hl⟩ := ckS_fld hc
   have hd := hmon.1
   have lF : ∀ i, i < 8 → ∀ j, j < 64 → F i j < n := fun i hi => (hl F (by simp) i hi).1
   have rF : rsk n m F := ckS_rsk hl (by simp)
   have rG : rsk n m G := ckS_rsk hl (by simp)
   have hirr := ckS_irr hc hmon
   obtain ⟨b1, b2⟩ := zsd G
   have HV := Lib.hid (dlV_0 hc hd hz)
   have HDV := Lib.hid (fun W => skDivL_any n m F G W hpr lm d hmon hirr (by omega) rF rG (by omega))
   have hgd := Try.noGuard26
   have heq := fun W => run_equalIn_sk (P := Try.prog) W 9997 26 24 5 G (fun _ _ => 0) Try.underlying26 Try.underlying24 Try.underlying5 Try.size24 Try.size5
   rw [skE_zero, decide_eq_false hz] at heq
   clear hl lF rF rG hirr hmon hz b1 b2 lm hpr hd
   go_upto_region 4 with (first | (refine zla (.tmp 6) B0 Try.underlying24 Try.size24 ?_) | (refine zla (.tmp 7) B1 Try.underlying26 Try.size26 ?_) | (refine zla (.tmp 8) B2 Try.underlying26 Try.size26 ?_) | (refine zbk rfl 170 _ [F, G] rfl 26 Try.underlying170 Try.elem26 (by simp) (by simp) rfl ?_; intro wa hps hba) | (go_at_call 94; refine (checkSkews_any _ m hm [F, G] (by simp [hF, hG]) (by simp) _ _ hps).mono ?_; rintro e W2 ⟨rfl, hbb⟩; rw [hc]))
   have hBB : Below W1.heap.size W1 W2 := hba.trans (hbb.mono hba.size)
   replace B0 := B0.zw hBB
   replace B1 := B1.zw hBB
   replace B2 := B2.zw hBB
   replace B3 := B3.zw hBB
   replace B4 := B4.zw hBB
   replace hb := hb.trans (hBB.mono hb.size)
   clear hBB hba hbb hps
   clear hc
   go_upto_region 6 with (first | rw [← zero512] | (refine zla (.tmp 8) B2 Try.underlying26 Try.size26 ?_))
   clear heq hgd
   have lt_B0 := B0.lt
   have lt_B1 := B1.lt
   have lt_B2 := B2.lt
   have lt_B3 := B3.lt
   have lt_B4 := B4.lt
   go_upto_region 7 with (first | rw [← z64] | rw [← zero512] | (refine zla (.tmp 7) B1 Try.underlying26 Try.size26 ?_) | (refine zla (.tmp 6) B0 Try.underlying24 Try.size24 ?_) | (refine zbo rfl 96 _ rfl (fdC (n : Int) m).toArray (by rw [Array.toList_map]; exact built_fd (n : Int) m) ?_) | (refine zla (.tmp 8) B2 Try.underlying26 Try.size26 ?_) | (go_at_call 195; refine (HDV.out _).mono ?_; rintro e W3 ⟨rfl, hW3⟩; replace B0 := B0.zw hW3; replace B1 := B1.zw hW3; replace B2 := B2.zw hW3; replace B3 := B3.zw hW3; replace B4 := B4.zw hW3; replace hb := (hb).trans (hW3.mono (hb).size)) | (refine wpList_store_blk rfl 26 (.tmp 14) (.tmp 40) rfl _ 512 (fl 64 (dql n m d F G).1) rfl rfl 26 _ (((Blk.new W3 512 26 (fl 64 (fun _ _ => 0))).alloc (.cells (zb 512 (fl 64 (fun _ _ => 0))) 26))) Try.size26 ?_; try simp only [Act.put]) | (refine wpList_store_blk rfl 26 (.tmp 15) (.tmp 41) rfl _ 512 (fl 64 (dql n m d F G).2) rfl rfl 26 _ (((show Blk ((W3.alloc (.cells (zb 512 (fl 64 (fun _ _ => 0))) 26)).alloc (.cells (zb 512 (fl 64 (fun _ _ => 0))) 26)) (W3.heap.size + 1) 512 26 (fl 64 (fun _ _ => 0)) by have := Blk.new (W3.alloc (.cells (zb 512 (fl 64 (fun _ _ => 0))) 26)) 512 26 (fl 64 (fun _ _ => 0)); simpa using this).rowOther (by omega))) Try.size26 ?_; try simp only [Act.put]))
   have lt_B0 := B0.lt
   have lt_B1 := B1.lt
   have lt_B2 := B2.lt
   have lt_B3 := B3.lt
   have lt_B4 := B4.lt
   have lhb := hb.size
   obtain ⟨W4, hwo, hzQ⟩ : ∃ v : World, v = ((((W3.alloc (.cells (zb 512 (fl 64 (fun _ _ => 0))) 26)).alloc (.cells (zb 512 (fl 64 (fun _ _ => 0))) 26)).setRow (W3.heap.size) (zb 512 (fl 64 (dql n m d F G).1))).setRow (W3.heap.size + 1) (zb 512 (fl 64 (dql n m d F G).2))) ∧ Blk v (w.heap.size) 64 24 (m) ∧ Blk v (w.heap.size + 1) 512 26 (fl 64 F) ∧ Blk v (w.heap.size + 1 + 1) 512 26 (fl 64 G) ∧ Blk v (w.heap.size + 1 + 1 + 1) 512 26 (fl 64 (fun _ _ => 0)) ∧ Blk v (w.heap.size + 1 + 1 + 1 + 1) 512 26 (fl 64 (fun _ _ => 0)) ∧ Blk v (W3.heap.size) 512 26 (fl 64 (dql n m d F G).1) ∧ Blk v (W3.heap.size + 1) 512 26 (fl 64 (dql n m d F G).2) ∧ Below w.heap.size w v := ⟨_, rfl, ((((B0.alloc (.cells (zb 512 (fl 64 (fun _ _ => 0))) 26)).alloc (.cells (zb 512 (fl 64 (fun _ _ => 0))) 26)).rowOther (by omega)).rowOther (by omega)), ((((B1.alloc (.cells (zb 512 (fl 64 (fun _ _ => 0))) 26)).alloc (.cells (zb 512 (fl 64 (fun _ _ => 0))) 26)).rowOther (by omega)).rowOther (by omega)), ((((B2.alloc (.cells (zb 512 (fl 64 (fun _ _ => 0))) 26)).alloc (.cells (zb 512 (fl 64 (fun _ _ => 0))) 26)).rowOther (by omega)).rowOther (by omega)), ((((B3.alloc (.cells (zb 512 (fl 64 (fun _ _ => 0))) 26)).alloc (.cells (zb 512 (fl 64 (fun _ _ => 0))) 26)).rowOther (by omega)).rowOther (by omega)), ((((B4.alloc (.cells (zb 512 (fl 64 (fun _ _ => 0))) 26)).alloc (.cells (zb 512 (fl 64 (fun _ _ => 0))) 26)).rowOther (by omega)).rowOther (by omega)), ((((Blk.new W3 512 26 (fl 64 (fun _ _ => 0))).alloc (.cells (zb 512 (fl 64 (fun _ _ => 0))) 26)).row (fl 64 (dql n m d F G).1)).rowOther (by omega)), (((show Blk ((W3.alloc (.cells (zb 512 (fl 64 (fun _ _ => 0))) 26)).alloc (.cells (zb 512 (fl 64 (fun _ _ => 0))) 26)) (W3.heap.size + 1) 512 26 (fl 64 (fun _ _ => 0)) by have := Blk.new (W3.alloc (.cells (zb 512 (fl 64 (fun _ _ => 0))) 26)) 512 26 (fl 64 (fun _ _ => 0)); simpa using this).rowOther (by omega)).row (fl 64 (dql n m d F G).2)), (zr (zr ((hb.alloc (by have := hb.size; simp; omega) (.cells (zb 512 (fl 64 (fun _ _ => 0))) 26)).alloc (by have := hb.size; simp; omega) (.cells (zb 512 (fl 64 (fun _ _ => 0))) 26)) (by omega) _) (by omega) _)⟩
   rw [← hwo]
   clear hwo B0 B1 B2 B3 B4 hb
   obtain ⟨B0, B1, B2, B3, B4, B5, B6, hb⟩ := hzQ
   obtain ⟨N1, hNN⟩ : ∃ n : Nat, n = W3.heap.size := ⟨_, rfl⟩
   rw [← hNN] at lt_B0 lt_B1 lt_B2 lt_B3 lt_B4 lhb B5 B6 ⊢
   clear hNN
   have zN1_0 := lt_B0
   have zN1_1 := lt_B1
   have zN1_2 := lt_B2
   have zN1_3 := lt_B3
   have zN1_4 := lt_B4
   have zN1 := lhb
   clear lt_B0 lt_B1 lt_B2 lt_B3 lt_B4 lhb
   try simp only [Act.put, pA, pB, pC]
   have lt_B0 : (w.heap.size) < W4.heap.size := B0.lt
   have lt_B1 : (w.heap.size + 1) < W4.heap.size := B1.lt
   have lt_B2 : (w.heap.size + 1 + 1) < W4.heap.size := B2.lt
   have lt_B3 : (w.heap.size + 1 + 1 + 1) < W4.heap.size := B3.lt
   have lt_B4 : (w.heap.size + 1 + 1 + 1 + 1) < W4.heap.size := B4.lt
   have lt_B5 : (N1) < W4.heap.size := B5.lt
   have lt_B6 : (N1 + 1) < W4.heap.size := B6.lt
   have hbase : w.heap.size ≤ W4.heap.size := hb.size
   refine zq Try.mixed (by kernel_rfl) (by kernel_rfl) (fun v => by (simp only [frL, Act.put, pA, pB, pC, Nat.reduceAdd, Nat.zero_add]; exact rfl))
    (fun L v W5 => Below w.heap.size w W5 ∧ Kx [w.heap.size + 1 + 1 + 1, w.heap.size + 1 + 1 + 1 + 1] W4 W5 ∧ (∃ g, Blk W5 (w.heap.size + 1 + 1 + 1) 512 26 (g)) ∧ (L 2 = false → Blk W5 (w.heap.size + 1 + 1 + 1) 512 26 (fl 64 (fun _ _ => 0))) ∧ (L 2 = true → Blk W5 (w.heap.size + 1 + 1 + 1) 512 26 (fl 64 (dql n m d F G).1)) ∧ (∃ g, Blk W5 (w.heap.size + 1 + 1 + 1 + 1) 512 26 (g)) ∧ (L 3 = false → Blk W5 (w.heap.size + 1 + 1 + 1 + 1) 512 26 (fl 64 (fun _ _ => 0))) ∧ (L 3 = true → Blk W5 (w.heap.size + 1 + 1 + 1 + 1) 512 26 (fl 64 (dql n m d F G).2)) ∧ VF L v [some (.agg (zb 512 (fl 64 (dql n m d F G).1))), some (.agg (zb 512 (fl 64 (dql n m d F G).2))), none, none, some (.int .i64 0)]) ?_ ?_ ?_
   · intro v hv0
     exact ⟨hb.drew, Kx.start _ _, ⟨_, B3.drew⟩, (fun _ => B3.drew), (fun h => by cases h), ⟨_, B4.drew⟩, (fun _ => B4.drew), (fun h => by cases h), VF.start⟩
   · refine (.cons rfl ?_ (.cons rfl ?_ (.cons rfl ?_ (.cons rfl ?_ (.cons rfl ?_ (.nil _))))))
     all_goals intro L v W5 hd hn ⟨hB, hX, x3, q3, n3, x4, q4, n4, V⟩ K hK
     · refine wp_load_any 26 _ rfl _ rfl 512 26 _ (B5.kx hX (by simp <;> omega)) _ Try.underlying26 rfl Try.size26 ?_
       exact hK _ _ _ rfl ⟨hB, hX, x3, q3, n3, x4, q4, n4, V.step 0 rfl⟩
     · refine wp_load_any 26 _ rfl _ rfl 512 26 _ (B6.kx hX (by simp <;> omega)) _ Try.underlying26 rfl Try.size26 ?_
       exact hK _ _ _ rfl ⟨hB, hX, x3, q3, n3, x4, q4, n4, V.step 1 rfl⟩
     · have e0 := V.at (zdq hd 0 rfl) rfl
       obtain ⟨gz, hk⟩ := x3
       refine zsb 26 _ _ rfl _ 512 (fl 64 (dql n m d F G).1) rfl e0 26 gz hk Try.size26 ?_
       exact hK _ undef _ rfl ⟨zr hB (by omega) _, hX.row (by simp) _, ⟨_, hk.row _⟩, (fun h => absurd h (by simp [setL])), (fun _ => hk.row _), (let ⟨g, h⟩ := x4; ⟨g, (h).rowOther (by omega)⟩), (fun h => (q4 h).rowOther (by omega)), (fun h => (n4 h).rowOther (by omega)), V.skip 2 rfl⟩
     · have e1 := V.at (zdq hd 1 rfl) rfl
       obtain ⟨gz, hk⟩ := x4
       refine zsb 26 _ _ rfl _ 512 (fl 64 (dql n m d F G).2) rfl e1 26 gz hk Try.size26 ?_
       exact hK _ undef _ rfl ⟨zr hB (by omega) _, hX.row (by simp) _, (let ⟨g, h⟩ := x3; ⟨g, (h).rowOther (by omega)⟩), (fun h => (q3 h).rowOther (by omega)), (fun h => (n3 h).rowOther (by omega)), ⟨_, hk.row _⟩, (fun h => absurd h (by simp [setL])), (fun _ => hk.row _), V.skip 3 rfl⟩
     go_wp2_with fail
     exact hK _ (.int .i64 0) _ (by simp only [Act.put, pA, pB, pC ]) ⟨hB, hX, x3, q3, n3, x4, q4, n4, V.step 4 rfl⟩
   intro L v W5 hL ⟨hB, hX, x3, q3, n3, x4, q4, n4, V⟩
   have r3 := n3 (hL 2 (by decide))
   have r4 := n4 (hL 3 (by decide))
   have e0 := V.at (hL 0 (by decide)) rfl
   have e1 := V.at (hL 1 (by decide)) rfl
   have e4 := V.at (hL 4 (by decide)) rfl
   clear hL x3 q3 n3 x4 q4 n4 V
   replace B0 := B0.kx hX (by simp <;> omega)
   replace B1 := B1.kx hX (by simp <;> omega)
   replace B2 := B2.kx hX (by simp <;> omega)
   replace B5 := B5.kx hX (by simp <;> omega)
   replace B6 := B6.kx hX (by simp <;> omega)
   clear hX
   simp only [Exit.then, e0, e1, e4]
   clear e0 e1 e4
   replace B3 := r3
   clear r3
   replace B4 := r4
   clear r4
   replace hb := hB
   clear hB
   clear hbase lt_B0 lt_B1 lt_B2 lt_B3 lt_B4 lt_B5 lt_B6
   go_wp2_with fail
   refine bodyPost_ret (results_any2t rfl _ _ _ 512 _ _ _ 512 _ _ rfl B3 _ Try.underlying26 rfl Try.size26 rfl B4 _ Try.underlying26 rfl Try.size26) rfl ⟨by first | (rw [HV.out]; rfl) | rw [HV.out], hb⟩
 have HV := Lib.hid (dlV_1 hc)
 go_upto_region 3 with (first | (refine zla (.tmp 6) B0 Try.underlying24 Try.size24 ?_) | (refine zla (.tmp 7) B1 Try.underlying26 Try.size26 ?_) | (refine zla (.tmp 8) B2 Try.underlying26 Try.size26 ?_) | (refine zbk rfl 170 _ [F, G] rfl 26 Try.underlying170 Try.elem26 (by simp) (by simp) rfl ?_; intro wa hps hba) | (go_at_call 94; refine (checkSkews_any _ m hm [F, G] (by simp [hF, hG]) (by simp) _ _ hps).mono ?_; rintro e W2 ⟨rfl, hbb⟩; rw [hc]))
 have hBB : Below W1.heap.size W1 W2 := hba.trans (hbb.mono hba.size)
 replace B0 := B0.zw hBB
 replace B1 := B1.zw hBB
 replace B2 := B2.zw hBB
 replace B3 := B3.zw hBB
 replace B4 := B4.zw hBB
 replace hb := hb.trans (hBB.mono hb.size)
 clear hBB hba hbb hps
 clear hc
 have lt_B0 := B0.lt
 have lt_B1 := B1.lt
 have lt_B2 := B2.lt
 have lt_B3 := B3.lt
 have lt_B4 := B4.lt
 go_wp2_with (first | rw [← z64] | rw [← zero512] | (refine zsr (.tmp 10) (.tmp 24) (fl 64 (fun _ _ => 0)) B3 Try.size26 ?_; try simp only [Act.put]) | (refine wpList_store_blk rfl 26 (.tmp 11) (.tmp 25) rfl _ 512 (fl 64 (fun _ _ => 0)) rfl rfl 26 _ ((B4.rowOther (by omega))) Try.size26 ?_; try simp only [Act.put]; go_wp2_with fail))
 obtain ⟨W3, hwo, hzQ⟩ : ∃ v : World, v = ((W2.setRow (w.heap.size + 1 + 1 + 1) (zb 512 (fl 64 (fun _ _ => 0)))).setRow (w.heap.size + 1 + 1 + 1 + 1) (zb 512 (fl 64 (fun _ _ => 0)))) ∧ Blk v (w.heap.size) 64 24 (m) ∧ Blk v (w.heap.size + 1) 512 26 (fl 64 F) ∧ Blk v (w.heap.size + 1 + 1) 512 26 (fl 64 G) ∧ Blk v (w.heap.size + 1 + 1 + 1) 512 26 (fl 64 (fun _ _ => 0)) ∧ Blk v (w.heap.size + 1 + 1 + 1 + 1) 512 26 (fl 64 (fun _ _ => 0)) ∧ Below w.heap.size w v := ⟨_, rfl, ((B0.rowOther (by omega)).rowOther (by omega)), ((B1.rowOther (by omega)).rowOther (by omega)), ((B2.rowOther (by omega)).rowOther (by omega)), ((B3.row (fl 64 (fun _ _ => 0))).rowOther (by omega)), ((B4.rowOther (by omega)).row (fl 64 (fun _ _ => 0))), (zr (zr hb (by omega) _) (by omega) _)⟩
 rw [← hwo]
 clear hwo B0 B1 B2 B3 B4 hb
 obtain ⟨B0, B1, B2, B3, B4, hb⟩ := hzQ
 try simp only [Act.put, pA, pB, pC]
 refine bodyPost_ret (results_any2t rfl _ _ _ 512 _ _ _ 512 _ _ rfl B3 _ Try.underlying26 rfl Try.size26 rfl B4 _ Try.underlying26 rfl Try.size26) rfl ⟨by first | (rw [HV.out]; rfl) | rw [HV.out], hb⟩
theorem impl_DivideLeft_any (p : Int) (m : Nat → Nat) (F G : Nat → Nat → Nat) (hm : byte m) (hF : ∀ i, byte (F i)) (hG : ∀ i, byte (G i)) (w : World) :
 Calls Try.prog 37 #[.int .i64 p, .agg (zb 64 m), .agg (zb 512 (fl 64 F)), .agg (zb 512 (fl 64 G))] w fun e w' => e = .returned (.tuple #[.agg (zb 512 (fl 64 (dlV p m F G).1.1)), .agg (zb 512 (fl 64 (dlV p m F G).1.2)), .int .i64 (dlV p m F G).2]) ∧ Below w.heap.size w w' := by
 have HD := Lib.hid (fun W => divideSkewsL_any p m F G hm hF hG W)
 go_enter Try.func37, Try.ntmps37
 go_upto_region 1 with (fail)
 rw [← zero512]
 obtain ⟨W1, hwo⟩ : ∃ v : World, v = (((((w.alloc (.cells (zb 64 (m)) 24)).alloc (.cells (zb 512 (fl 64 F)) 26)).alloc (.cells (zb 512 (fl 64 G)) 26)).alloc (.cells (zb 512 (fl 64 (fun _ _ => 0))) 26)).alloc (.cells (zb 512 (fl 64 (fun _ _ => 0))) 26)) := ⟨_, rfl⟩
 have B0 : Blk W1 (w.heap.size) 64 24 (m) := by subst hwo; have := (((((Blk.new w 64 24 (m)).alloc (.cells (zb 512 (fl 64 F)) 26)).alloc (.cells (zb 512 (fl 64 G)) 26)).alloc (.cells (zb 512 (fl 64 (fun _ _ => 0))) 26)).alloc (.cells (zb 512 (fl 64 (fun _ _ => 0))) 26)); simpa using this
 have B1 : Blk W1 (w.heap.size + 1) 512 26 (fl 64 F) := by subst hwo; have := ((((Blk.new (w.alloc (.cells (zb 64 (m)) 24)) 512 26 (fl 64 F)).alloc (.cells (zb 512 (fl 64 G)) 26)).alloc (.cells (zb 512 (fl 64 (fun _ _ => 0))) 26)).alloc (.cells (zb 512 (fl 64 (fun _ _ => 0))) 26)); simpa using this
 have B2 : Blk W1 (w.heap.size + 1 + 1) 512 26 (fl 64 G) := by subst hwo; have := (((Blk.new ((w.alloc (.cells (zb 64 (m)) 24)).alloc (.cells (zb 512 (fl 64 F)) 26)) 512 26 (fl 64 G)).alloc (.cells (zb 512 (fl 64 (fun _ _ => 0))) 26)).alloc (.cells (zb 512 (fl 64 (fun _ _ => 0))) 26)); simpa using this
 have B3 : Blk W1 (w.heap.size + 1 + 1 + 1) 512 26 (fl 64 (fun _ _ => 0)) := by subst hwo; have := ((Blk.new (((w.alloc (.cells (zb 64 (m)) 24)).alloc (.cells (zb 512 (fl 64 F)) 26)).alloc (.cells (zb 512 (fl 64 G)) 26)) 512 26 (fl 64 (fun _ _ => 0))).alloc (.cells (zb 512 (fl 64 (fun _ _ => 0))) 26)); simpa using this
 have B4 : Blk W1 (w.heap.size + 1 + 1 + 1 + 1) 512 26 (fl 64 (fun _ _ => 0)) := by subst hwo; have := (Blk.new ((((w.alloc (.cells (zb 64 (m)) 24)).alloc (.cells (zb 512 (fl 64 F)) 26)).alloc (.cells (zb 512 (fl 64 G)) 26)).alloc (.cells (zb 512 (fl 64 (fun _ _ => 0))) 26)) 512 26 (fl 64 (fun _ _ => 0))); simpa using this
 have hb : Below w.heap.size w W1 := by subst hwo; exact ((((((Below.refl _ _).alloc (Nat.le_refl _) _).alloc (by simp) _).alloc (by simp; omega) _).alloc (by simp; omega) _).alloc (by simp; omega) _)
 rw [← hwo]
 clear hwo
 go_wp2_with (first | rw [← z64] | rw [← zero512] | (refine zla (.tmp 5) B0 Try.underlying24 Try.size24 ?_) | (refine zla (.tmp 6) B1 Try.underlying26 Try.size26 ?_) | (refine zla (.tmp 7) B2 Try.underlying26 Try.size26 ?_) | (go_at_call 103; refine (HD.out _).mono ?_; rintro e W2 ⟨rfl, hW2⟩; replace B0 := B0.zw hW2; replace B1 := B1.zw hW2; replace B2 := B2.zw hW2; replace B3 := B3.zw hW2; replace B4 := B4.zw hW2; replace hb := (hb).trans (hW2.mono (hb).size)) | (refine zsr (.tmp 8) (.tmp 16) (fl 64 (dlV p m F G).1.1) B3 Try.size26 ?_; try simp only [Act.put]) | (refine wpList_store_blk rfl 26 (.tmp 9) (.tmp 17) rfl _ 512 (fl 64 (dlV p m F G).1.2) rfl rfl 26 _ ((B4.rowOther (by omega))) Try.size26 ?_; try simp only [Act.put]; go_wp2_with fail))
 obtain ⟨W3, hwo, hzQ⟩ : ∃ v : World, v = ((W2.setRow (w.heap.size + 1 + 1 + 1) (zb 512 (fl 64 (dlV p m F G).1.1))).setRow (w.heap.size + 1 + 1 + 1 + 1) (zb 512 (fl 64 (dlV p m F G).1.2))) ∧ Blk v (w.heap.size) 64 24 (m) ∧ Blk v (w.heap.size + 1) 512 26 (fl 64 F) ∧ Blk v (w.heap.size + 1 + 1) 512 26 (fl 64 G) ∧ Blk v (w.heap.size + 1 + 1 + 1) 512 26 (fl 64 (dlV p m F G).1.1) ∧ Blk v (w.heap.size + 1 + 1 + 1 + 1) 512 26 (fl 64 (dlV p m F G).1.2) ∧ Below w.heap.size w v := ⟨_, rfl, ((B0.rowOther (by omega)).rowOther (by omega)), ((B1.rowOther (by omega)).rowOther (by omega)), ((B2.rowOther (by omega)).rowOther (by omega)), ((B3.row (fl 64 (dlV p m F G).1.1)).rowOther (by omega)), ((B4.rowOther (by omega)).row (fl 64 (dlV p m F G).1.2)), (zr (zr hb (by omega) _) (by omega) _)⟩
 rw [← hwo]
 clear hwo B0 B1 B2 B3 B4 hb
 obtain ⟨B0, B1, B2, B3, B4, hb⟩ := hzQ
 try simp only [Act.put, pA, pB, pC]
 refine bodyPost_ret (results_any2t rfl _ _ _ 512 _ _ _ 512 _ _ rfl B3 _ Try.underlying26 rfl Try.size26 rfl B4 _ Try.underlying26 rfl Try.size26) rfl ⟨rfl, hb⟩
end Go.Proofs.Yteloknnooebabaa
namespace Go.Proofs.Yteloknnooebabaa
open Go Go.RowKit
theorem FnExactDivideLeft_walk (p : Int) (m : Nat → Nat) (F : Nat → Nat → Nat) (G : Nat → Nat → Nat) (hm : byte m) (hF : ∀ i, byte (F i)) (hG : ∀ i, byte (G i)) (w : World) :
 Calls Try.prog 6 #[.int .i64 p, .agg (zb 64 m), .agg (zb 512 (fl 64 F)), .agg (zb 512 (fl 64 G))] w fun e w' => e = .returned (.bool true) ∧ Below w.heap.size w w' := by
 go_enter Try.func6, Try.ntmps6
 go_upto_region 1 with (fail)
 obtain ⟨W1, hwo⟩ : ∃ v : World, v = (((w.alloc (.cells (zb 64 (m)) 22)).alloc (.cells (zb 512 (fl 64 F)) 23)).alloc (.cells (zb 512 (fl 64 G)) 23)) := ⟨_, rfl⟩
 have B0 : Blk W1 (w.heap.size) 64 22 (m) := by subst hwo; have := (((Blk.new w 64 22 (m)).alloc (.cells (zb 512 (fl 64 F)) 23)).alloc (.cells (zb 512 (fl 64 G)) 23)); simpa using this
 have B1 : Blk W1 (w.heap.size + 1) 512 23 (fl 64 F) := by subst hwo; have := ((Blk.new (w.alloc (.cells (zb 64 (m)) 22)) 512 23 (fl 64 F)).alloc (.cells (zb 512 (fl 64 G)) 23)); simpa using this
 have B2 : Blk W1 (w.heap.size + 1 + 1) 512 23 (fl 64 G) := by subst hwo; have := (Blk.new ((w.alloc (.cells (zb 64 (m)) 22)).alloc (.cells (zb 512 (fl 64 F)) 23)) 512 23 (fl 64 G)); simpa using this
 have hb : Below w.heap.size w W1 := by subst hwo; exact ((((Below.refl _ _).alloc (Nat.le_refl _) _).alloc (by simp) _).alloc (by simp; omega) _)
 rw [← hwo]
 clear hwo
 have hne2 : (((dlV p m F G).2) != ((dlV p m F G).2)) = false := by simp
 have lt_B0 : (w.heap.size) < W1.heap.size := B0.lt
 have lt_B1 : (w.heap.size + 1) < W1.heap.size := B1.lt
 have lt_B2 : (w.heap.size + 1 + 1) < W1.heap.size := B2.lt
 refine zq Try.mixed (by kernel_rfl) (by kernel_rfl) (fun v => by (simp only [frL, Act.put, pA, pB, pC, Nat.reduceAdd, Nat.zero_add]; exact rfl))
  (fun L v W2 => Below W1.heap.size W1 W2 ∧ (L 12 = true → AF (v 12) W2 W1.heap.size 512 26) ∧ (L 13 = true → AF (v 13) W2 W1.heap.size 512 26) ∧ (L 14 = true → PF (v 12) W2 W1.heap.size 512 26 (fl 64 ((dlV p m F G).1.1))) ∧ (L 15 = true → PF (v 13) W2 W1.heap.size 512 26 (fl 64 ((dlV p m F G).1.2))) ∧ (L 12 = true → L 13 = true → v 12 ≠ v 13) ∧ VF L v [some (.int .i64 p), some (.agg (zb 64 (m))), some (.agg (zb 64 (m))), some (.agg (zb 512 (fl 64 F))), some (.agg (zb 512 (fl 64 F))), some (.agg (zb 512 (fl 64 G))), some (.agg (zb 512 (fl 64 G))), some (.tuple #[(.agg (zb 512 (fl 64 ((dlV p m F G).1.1)))), (.agg (zb 512 (fl 64 ((dlV p m F G).1.2)))), (.int .i64 ((dlV p m F G).2))]), some (.tuple #[(.agg (zb 512 (fl 64 ((dlV p m F G).1.1)))), (.agg (zb 512 (fl 64 ((dlV p m F G).1.2)))), (.int .i64 ((dlV p m F G).2))]), some (.agg (zb 512 (fl 64 ((dlV p m F G).1.1)))), some (.agg (zb 512 (fl 64 ((dlV p m F G).1.2)))), some (.int .i64 ((dlV p m F G).2)), none, none, none, none, some (.int .i64 ((dlV p m F G).2))]) ?_ ?_ ?_
 · intro v hv0
   exact ⟨(Below.refl _ W1).drew, (fun h => by cases h), (fun h => by cases h), (fun h => by cases h), (fun h => by cases h), (fun h => by cases h), VF.start⟩
 · refine (.cons rfl ?_ (.cons rfl ?_ (.cons rfl ?_ (.cons rfl ?_ (.cons rfl ?_ (.cons rfl ?_ (.cons rfl ?_ (.cons rfl ?_ (.cons rfl ?_ (.cons rfl ?_ (.cons rfl ?_ (.cons rfl ?_ (.cons rfl ?_ (.cons rfl ?_ (.cons rfl ?_ (.cons rfl ?_ (.cons rfl ?_ (.nil _))))))))))))))))))
   all_goals intro L v W2 hd hn ⟨hY, h12, h13, h14, h15, d12_13, V⟩ K hK
   · go_wp2_with fail
     exact hK _ (.int .i64 p) _ (by simp only [Act.put, pA, pB, pC ]) ⟨hY, h12, h13, h14, h15, d12_13, V.step 0 rfl⟩
   · refine zlc (B0.zw hY) Try.underlying22 Try.size22 ?_
     exact hK _ _ _ rfl ⟨hY, h12, h13, h14, h15, d12_13, V.step 1 rfl⟩
   · have e1 := V.at (zdq hd 1 rfl) rfl
     go_wp2_with (go_at_call 28; refine (toPoly_any m hm _).mono ?_; rintro e wy ⟨rfl, hy⟩)
     exact hK _ (.agg (zb 64 (m))) _ (by simp only [Act.put, pA, pB, pC, e1]) ⟨hY.trans (hy.mono hY.size), (fun h => (h12 h).below hy), (fun h => (h13 h).below hy), (fun h => (h14 h).below hy), (fun h => (h15 h).below hy), d12_13, V.step 2 rfl⟩
   · refine zlc (B1.zw hY) Try.underlying23 Try.size23 ?_
     exact hK _ _ _ rfl ⟨hY, h12, h13, h14, h15, d12_13, V.step 3 rfl⟩
   · have e3 := V.at (zdq hd 3 rfl) rfl
     go_wp2_with (go_at_call 29; refine (toSkew_any F hF _).mono ?_; rintro e wy ⟨rfl, hy⟩)
     exact hK _ (.agg (zb 512 (fl 64 F))) _ (by simp only [Act.put, pA, pB, pC, e3]) ⟨hY.trans (hy.mono hY.size), (fun h => (h12 h).below hy), (fun h => (h13 h).below hy), (fun h => (h14 h).below hy), (fun h => (h15 h).below hy), d12_13, V.step 4 rfl⟩
   · refine zlc (B2.zw hY) Try.underlying23 Try.size23 ?_
     exact hK _ _ _ rfl ⟨hY, h12, h13, h14, h15, d12_13, V.step 5 rfl⟩
   · have e5 := V.at (zdq hd 5 rfl) rfl
     go_wp2_with (go_at_call 29; refine (toSkew_any G hG _).mono ?_; rintro e wy ⟨rfl, hy⟩)
     exact hK _ (.agg (zb 512 (fl 64 G))) _ (by simp only [Act.put, pA, pB, pC, e5]) ⟨hY.trans (hy.mono hY.size), (fun h => (h12 h).below hy), (fun h => (h13 h).below hy), (fun h => (h14 h).below hy), (fun h => (h15 h).below hy), d12_13, V.step 6 rfl⟩
   · have e0 := V.at (zdq hd 0 rfl) rfl
     have e2 := V.at (zdq hd 2 rfl) rfl
     have e4 := V.at (zdq hd 4 rfl) rfl
     have e6 := V.at (zdq hd 6 rfl) rfl
     go_wp2_with (go_at_call 36; refine (spec_DivideLeft_any p m F G hm hF hG _).mono ?_; rintro e wy ⟨rfl, hy⟩)
     exact hK _ (.tuple #[(.agg (zb 512 (fl 64 ((dlV p m F G).1.1)))), (.agg (zb 512 (fl 64 ((dlV p m F G).1.2)))), (.int .i64 ((dlV p m F G).2))]) _ (by simp only [Act.put, pA, pB, pC, e0, e2, e4, e6]) ⟨hY.trans (hy.mono hY.size), (fun h => (h12 h).below hy), (fun h => (h13 h).below hy), (fun h => (h14 h).below hy), (fun h => (h15 h).below hy), d12_13, V.step 7 rfl⟩
   · have e7 := V.at (zdq hd 7 rfl) rfl
     go_wp2_with fail
     exact hK _ (.tuple #[(.agg (zb 512 (fl 64 ((dlV p m F G).1.1)))), (.agg (zb 512 (fl 64 ((dlV p m F G).1.2)))), (.int .i64 ((dlV p m F G).2))]) _ (by simp only [Act.put, pA, pB, pC, e7]) ⟨hY, h12, h13, h14, h15, d12_13, V.step 8 rfl⟩
   · have e8 := V.at (zdq hd 8 rfl) rfl
     go_wp2_with fail
     exact hK _ (.agg (zb 512 (fl 64 ((dlV p m F G).1.1)))) _ (by simp only [Act.put, pA, pB, pC, e8]) ⟨hY, h12, h13, h14, h15, d12_13, V.step 9 rfl⟩
   · have e8 := V.at (zdq hd 8 rfl) rfl
     go_wp2_with fail
     exact hK _ (.agg (zb 512 (fl 64 ((dlV p m F G).1.2)))) _ (by simp only [Act.put, pA, pB, pC, e8]) ⟨hY, h12, h13, h14, h15, d12_13, V.step 10 rfl⟩
   · have e8 := V.at (zdq hd 8 rfl) rfl
     go_wp2_with fail
     exact hK _ (.int .i64 ((dlV p m F G).2)) _ (by simp only [Act.put, pA, pB, pC, e8]) ⟨hY, h12, h13, h14, h15, d12_13, V.step 11 rfl⟩
   · go_wp2_with fail
     rw [← zero512]
     exact hK _ (.pointer (some ⟨W2.heap.size, 0, none⟩)) _ (by simp only [Act.put, pA, pB, pC ]) ⟨hY.alloc hY.size _, (fun _ => (PF.new W2 512 26 _ hY.size).af), (fun h => (h13 h).below (zal _ _)), (fun h => absurd rfl (hn 14 _ rfl h ⟨12, .data⟩ (by simp) rfl)), (fun h => (h15 h).below (zal _ _)), (fun h g1 => Ne.symm ((h13 g1).ne_new)), V.skip 12 rfl⟩
   · go_wp2_with fail
     rw [← zero512]
     exact hK _ (.pointer (some ⟨W2.heap.size, 0, none⟩)) _ (by simp only [Act.put, pA, pB, pC ]) ⟨hY.alloc hY.size _, (fun h => (h12 h).below (zal _ _)), (fun _ => (PF.new W2 512 26 _ hY.size).af), (fun h => (h14 h).below (zal _ _)), (fun h => absurd rfl (hn 15 _ rfl h ⟨13, .data⟩ (by simp) rfl)), (fun h g1 => (h12 h).ne_new), V.skip 13 rfl⟩
   · have e9 := V.at (zdq hd 9 rfl) rfl
     obtain ⟨gz, b, ea, hN, hk⟩ := (h12 (zdq hd 12 rfl)).out
     refine zsb 26 _ _ rfl b 512 (fl 64 ((dlV p m F G).1.1)) ea e9 26 gz hk Try.size26 ?_
     exact hK _ undef _ rfl ⟨zr hY hN _, (fun h => (h12 h).row hk), (fun h => (h13 h).row hk), (fun _ => by rw [show updV v 14 undef 12 = v 12 from rfl, ea]; exact PF.row hk hN _), (fun h => (h15 h).rowOther (by rw [← ea]; exact (Ne.symm (d12_13 (zdq hd 12 rfl) (zdq hd 13 rfl))))), d12_13, V.skip 14 rfl⟩
   · have e10 := V.at (zdq hd 10 rfl) rfl
     obtain ⟨gz, b, ea, hN, hk⟩ := (h13 (zdq hd 13 rfl)).out
     refine zsb 26 _ _ rfl b 512 (fl 64 ((dlV p m F G).1.2)) ea e10 26 gz hk Try.size26 ?_
     exact hK _ undef _ rfl ⟨zr hY hN _, (fun h => (h12 h).row hk), (fun h => (h13 h).row hk), (fun h => (h14 h).rowOther (by rw [← ea]; exact (d12_13 (zdq hd 12 rfl) (zdq hd 13 rfl)))), (fun _ => by rw [show updV v 15 undef 13 = v 13 from rfl, ea]; exact PF.row hk hN _), d12_13, V.skip 15 rfl⟩
   have e11 := V.at (zdq hd 11 rfl) rfl
   go_wp2_with fail
   exact hK _ (.int .i64 ((dlV p m F G).2)) _ (by simp only [Act.put, pA, pB, pC, e11]) ⟨hY, h12, h13, h14, h15, d12_13, V.step 16 rfl⟩
 intro L v W2 hL ⟨hY, h12, h13, h14, h15, d12_13, V⟩
 obtain ⟨k1_12, e12, hNk1_12, hk1_12⟩ := (h14 (hL 14 (by decide))).out
 obtain ⟨k1_13, e13, hNk1_13, hk1_13⟩ := (h15 (hL 15 (by decide))).out
 have n12_13 := d12_13 (hL 12 (by decide)) (hL 13 (by decide))
 have e0 := V.at (hL 0 (by decide)) rfl
 have e1 := V.at (hL 1 (by decide)) rfl
 have e2 := V.at (hL 2 (by decide)) rfl
 have e3 := V.at (hL 3 (by decide)) rfl
 have e4 := V.at (hL 4 (by decide)) rfl
 have e5 := V.at (hL 5 (by decide)) rfl
 have e6 := V.at (hL 6 (by decide)) rfl
 have e7 := V.at (hL 7 (by decide)) rfl
 have e8 := V.at (hL 8 (by decide)) rfl
 have e9 := V.at (hL 9 (by decide)) rfl
 have e10 := V.at (hL 10 (by decide)) rfl
 have e11 := V.at (hL 11 (by decide)) rfl
 have e16 := V.at (hL 16 (by decide)) rfl
 clear hL h12 h13 h14 h15 d12_13 V
 replace B0 := B0.zw hY
 replace B1 := B1.zw hY
 replace B2 := B2.zw hY
 replace hb := hb.trans (hY.mono hb.size)
 clear hY
 rw [e12, e13] at n12_13
 have mk1_12_13 : k1_12 ≠ k1_13 := fun h => n12_13 (by rw [h])
 clear n12_13
 simp only [Exit.then, e12, e13, e0, e1, e2, e3, e4, e5, e6, e7, e8, e9, e10, e11, e16]
 clear e12 e13 e0 e1 e2 e3 e4 e5 e6 e7 e8 e9 e10 e11 e16
 have B3 := hk1_12
 clear hk1_12
 have zk1_12_0 : w.heap.size < k1_12 := by omega
 have zk1_12_1 : w.heap.size + 1 < k1_12 := by omega
 have zk1_12_2 : w.heap.size + 1 + 1 < k1_12 := by omega
 have B4 := hk1_13
 clear hk1_13
 have zk1_13_0 : w.heap.size < k1_13 := by omega
 have zk1_13_1 : w.heap.size + 1 < k1_13 := by omega
 have zk1_13_2 : w.heap.size + 1 + 1 < k1_13 := by omega
 clear lt_B0 lt_B1 lt_B2
 go_upto_region 2 with (fail)
 have lt_B0 : (w.heap.size) < W2.heap.size := B0.lt
 have lt_B1 : (w.heap.size + 1) < W2.heap.size := B1.lt
 have lt_B2 : (w.heap.size + 1 + 1) < W2.heap.size := B2.lt
 have lt_B3 : (k1_12) < W2.heap.size := B3.lt
 have lt_B4 : (k1_13) < W2.heap.size := B4.lt
 refine zq Try.mixed (by kernel_rfl) (by kernel_rfl) (fun v => by (simp only [frL, Act.put, pA, pB, pC, Nat.reduceAdd, Nat.zero_add]; exact rfl))
  (fun L v W3 => Below W2.heap.size W2 W3 ∧ (L 12 = true → AF (v 12) W3 W2.heap.size 512 26) ∧ (L 13 = true → AF (v 13) W3 W2.heap.size 512 26) ∧ (L 14 = true → PF (v 12) W3 W2.heap.size 512 26 (fl 64 ((dlV p m F G).1.1))) ∧ (L 15 = true → PF (v 13) W3 W2.heap.size 512 26 (fl 64 ((dlV p m F G).1.2))) ∧ (L 12 = true → L 13 = true → v 12 ≠ v 13) ∧ VF L v [some (.int .i64 p), some (.agg (zb 64 (m))), some (.agg (zb 64 (m))), some (.agg (zb 512 (fl 64 F))), some (.agg (zb 512 (fl 64 F))), some (.agg (zb 512 (fl 64 G))), some (.agg (zb 512 (fl 64 G))), some (.tuple #[(.agg (zb 512 (fl 64 ((dlV p m F G).1.1)))), (.agg (zb 512 (fl 64 ((dlV p m F G).1.2)))), (.int .i64 ((dlV p m F G).2))]), some (.tuple #[(.agg (zb 512 (fl 64 ((dlV p m F G).1.1)))), (.agg (zb 512 (fl 64 ((dlV p m F G).1.2)))), (.int .i64 ((dlV p m F G).2))]), some (.agg (zb 512 (fl 64 ((dlV p m F G).1.1)))), some (.agg (zb 512 (fl 64 ((dlV p m F G).1.2)))), some (.int .i64 ((dlV p m F G).2)), none, none, none, none, some (.int .i64 ((dlV p m F G).2))]) ?_ ?_ ?_
 · intro v hv0
   exact ⟨(Below.refl _ W2).drew, (fun h => by cases h), (fun h => by cases h), (fun h => by cases h), (fun h => by cases h), (fun h => by cases h), VF.start⟩
 · refine (.cons rfl ?_ (.cons rfl ?_ (.cons rfl ?_ (.cons rfl ?_ (.cons rfl ?_ (.cons rfl ?_ (.cons rfl ?_ (.cons rfl ?_ (.cons rfl ?_ (.cons rfl ?_ (.cons rfl ?_ (.cons rfl ?_ (.cons rfl ?_ (.cons rfl ?_ (.cons rfl ?_ (.cons rfl ?_ (.cons rfl ?_ (.nil _))))))))))))))))))
   all_goals intro L v W3 hd hn ⟨hY, h12, h13, h14, h15, d12_13, V⟩ K hK
   · go_wp2_with fail
     exact hK _ (.int .i64 p) _ (by simp only [Act.put, pA, pB, pC ]) ⟨hY, h12, h13, h14, h15, d12_13, V.step 0 rfl⟩
   · refine zlc (B0.zw hY) Try.underlying22 Try.size22 ?_
     exact hK _ _ _ rfl ⟨hY, h12, h13, h14, h15, d12_13, V.step 1 rfl⟩
   · have e1 := V.at (zdq hd 1 rfl) rfl
     go_wp2_with (go_at_call 28; refine (toPoly_any m hm _).mono ?_; rintro e wy ⟨rfl, hy⟩)
     exact hK _ (.agg (zb 64 (m))) _ (by simp only [Act.put, pA, pB, pC, e1]) ⟨hY.trans (hy.mono hY.size), (fun h => (h12 h).below hy), (fun h => (h13 h).below hy), (fun h => (h14 h).below hy), (fun h => (h15 h).below hy), d12_13, V.step 2 rfl⟩
   · refine zlc (B1.zw hY) Try.underlying23 Try.size23 ?_
     exact hK _ _ _ rfl ⟨hY, h12, h13, h14, h15, d12_13, V.step 3 rfl⟩
   · have e3 := V.at (zdq hd 3 rfl) rfl
     go_wp2_with (go_at_call 29; refine (toSkew_any F hF _).mono ?_; rintro e wy ⟨rfl, hy⟩)
     exact hK _ (.agg (zb 512 (fl 64 F))) _ (by simp only [Act.put, pA, pB, pC, e3]) ⟨hY.trans (hy.mono hY.size), (fun h => (h12 h).below hy), (fun h => (h13 h).below hy), (fun h => (h14 h).below hy), (fun h => (h15 h).below hy), d12_13, V.step 4 rfl⟩
   · refine zlc (B2.zw hY) Try.underlying23 Try.size23 ?_
     exact hK _ _ _ rfl ⟨hY, h12, h13, h14, h15, d12_13, V.step 5 rfl⟩
   · have e5 := V.at (zdq hd 5 rfl) rfl
     go_wp2_with (go_at_call 29; refine (toSkew_any G hG _).mono ?_; rintro e wy ⟨rfl, hy⟩)
     exact hK _ (.agg (zb 512 (fl 64 G))) _ (by simp only [Act.put, pA, pB, pC, e5]) ⟨hY.trans (hy.mono hY.size), (fun h => (h12 h).below hy), (fun h => (h13 h).below hy), (fun h => (h14 h).below hy), (fun h => (h15 h).below hy), d12_13, V.step 6 rfl⟩
   · have e0 := V.at (zdq hd 0 rfl) rfl
     have e2 := V.at (zdq hd 2 rfl) rfl
     have e4 := V.at (zdq hd 4 rfl) rfl
     have e6 := V.at (zdq hd 6 rfl) rfl
     go_wp2_with (go_at_call 37; refine (impl_DivideLeft_any p m F G hm hF hG _).mono ?_; rintro e wy ⟨rfl, hy⟩)
     exact hK _ (.tuple #[(.agg (zb 512 (fl 64 ((dlV p m F G).1.1)))), (.agg (zb 512 (fl 64 ((dlV p m F G).1.2)))), (.int .i64 ((dlV p m F G).2))]) _ (by simp only [Act.put, pA, pB, pC, e0, e2, e4, e6]) ⟨hY.trans (hy.mono hY.size), (fun h => (h12 h).below hy), (fun h => (h13 h).below hy), (fun h => (h14 h).below hy), (fun h => (h15 h).below hy), d12_13, V.step 7 rfl⟩
   · have e7 := V.at (zdq hd 7 rfl) rfl
     go_wp2_with fail
     exact hK _ (.tuple #[(.agg (zb 512 (fl 64 ((dlV p m F G).1.1)))), (.agg (zb 512 (fl 64 ((dlV p m F G).1.2)))), (.int .i64 ((dlV p m F G).2))]) _ (by simp only [Act.put, pA, pB, pC, e7]) ⟨hY, h12, h13, h14, h15, d12_13, V.step 8 rfl⟩
   · have e8 := V.at (zdq hd 8 rfl) rfl
     go_wp2_with fail
     exact hK _ (.agg (zb 512 (fl 64 ((dlV p m F G).1.1)))) _ (by simp only [Act.put, pA, pB, pC, e8]) ⟨hY, h12, h13, h14, h15, d12_13, V.step 9 rfl⟩
   · have e8 := V.at (zdq hd 8 rfl) rfl
     go_wp2_with fail
     exact hK _ (.agg (zb 512 (fl 64 ((dlV p m F G).1.2)))) _ (by simp only [Act.put, pA, pB, pC, e8]) ⟨hY, h12, h13, h14, h15, d12_13, V.step 10 rfl⟩
   · have e8 := V.at (zdq hd 8 rfl) rfl
     go_wp2_with fail
     exact hK _ (.int .i64 ((dlV p m F G).2)) _ (by simp only [Act.put, pA, pB, pC, e8]) ⟨hY, h12, h13, h14, h15, d12_13, V.step 11 rfl⟩
   · go_wp2_with fail
     rw [← zero512]
     exact hK _ (.pointer (some ⟨W3.heap.size, 0, none⟩)) _ (by simp only [Act.put, pA, pB, pC ]) ⟨hY.alloc hY.size _, (fun _ => (PF.new W3 512 26 _ hY.size).af), (fun h => (h13 h).below (zal _ _)), (fun h => absurd rfl (hn 14 _ rfl h ⟨12, .data⟩ (by simp) rfl)), (fun h => (h15 h).below (zal _ _)), (fun h g1 => Ne.symm ((h13 g1).ne_new)), V.skip 12 rfl⟩
   · go_wp2_with fail
     rw [← zero512]
     exact hK _ (.pointer (some ⟨W3.heap.size, 0, none⟩)) _ (by simp only [Act.put, pA, pB, pC ]) ⟨hY.alloc hY.size _, (fun h => (h12 h).below (zal _ _)), (fun _ => (PF.new W3 512 26 _ hY.size).af), (fun h => (h14 h).below (zal _ _)), (fun h => absurd rfl (hn 15 _ rfl h ⟨13, .data⟩ (by simp) rfl)), (fun h g1 => (h12 h).ne_new), V.skip 13 rfl⟩
   · have e9 := V.at (zdq hd 9 rfl) rfl
     obtain ⟨gz, b, ea, hN, hk⟩ := (h12 (zdq hd 12 rfl)).out
     refine zsb 26 _ _ rfl b 512 (fl 64 ((dlV p m F G).1.1)) ea e9 26 gz hk Try.size26 ?_
     exact hK _ undef _ rfl ⟨zr hY hN _, (fun h => (h12 h).row hk), (fun h => (h13 h).row hk), (fun _ => by rw [show updV v 14 undef 12 = v 12 from rfl, ea]; exact PF.row hk hN _), (fun h => (h15 h).rowOther (by rw [← ea]; exact (Ne.symm (d12_13 (zdq hd 12 rfl) (zdq hd 13 rfl))))), d12_13, V.skip 14 rfl⟩
   · have e10 := V.at (zdq hd 10 rfl) rfl
     obtain ⟨gz, b, ea, hN, hk⟩ := (h13 (zdq hd 13 rfl)).out
     refine zsb 26 _ _ rfl b 512 (fl 64 ((dlV p m F G).1.2)) ea e10 26 gz hk Try.size26 ?_
     exact hK _ undef _ rfl ⟨zr hY hN _, (fun h => (h12 h).row hk), (fun h => (h13 h).row hk), (fun h => (h14 h).rowOther (by rw [← ea]; exact (d12_13 (zdq hd 12 rfl) (zdq hd 13 rfl)))), (fun _ => by rw [show updV v 15 undef 13 = v 13 from rfl, ea]; exact PF.row hk hN _), d12_13, V.skip 15 rfl⟩
   have e11 := V.at (zdq hd 11 rfl) rfl
   go_wp2_with fail
   exact hK _ (.int .i64 ((dlV p m F G).2)) _ (by simp only [Act.put, pA, pB, pC, e11]) ⟨hY, h12, h13, h14, h15, d12_13, V.step 16 rfl⟩
 intro L v W3 hL ⟨hY, h12, h13, h14, h15, d12_13, V⟩
 obtain ⟨k2_12, e12, hNk2_12, hk2_12⟩ := (h14 (hL 14 (by decide))).out
 obtain ⟨k2_13, e13, hNk2_13, hk2_13⟩ := (h15 (hL 15 (by decide))).out
 have n12_13 := d12_13 (hL 12 (by decide)) (hL 13 (by decide))
 have e0 := V.at (hL 0 (by decide)) rfl
 have e1 := V.at (hL 1 (by decide)) rfl
 have e2 := V.at (hL 2 (by decide)) rfl
 have e3 := V.at (hL 3 (by decide)) rfl
 have e4 := V.at (hL 4 (by decide)) rfl
 have e5 := V.at (hL 5 (by decide)) rfl
 have e6 := V.at (hL 6 (by decide)) rfl
 have e7 := V.at (hL 7 (by decide)) rfl
 have e8 := V.at (hL 8 (by decide)) rfl
 have e9 := V.at (hL 9 (by decide)) rfl
 have e10 := V.at (hL 10 (by decide)) rfl
 have e11 := V.at (hL 11 (by decide)) rfl
 have e16 := V.at (hL 16 (by decide)) rfl
 clear hL h12 h13 h14 h15 d12_13 V
 replace B0 := B0.zw hY
 replace B1 := B1.zw hY
 replace B2 := B2.zw hY
 replace B3 := B3.zw hY
 replace B4 := B4.zw hY
 replace hb := hb.trans (hY.mono hb.size)
 clear hY
 rw [e12, e13] at n12_13
 have mk2_12_13 : k2_12 ≠ k2_13 := fun h => n12_13 (by rw [h])
 clear n12_13
 simp only [Exit.then, e12, e13, e0, e1, e2, e3, e4, e5, e6, e7, e8, e9, e10, e11, e16]
 clear e12 e13 e0 e1 e2 e3 e4 e5 e6 e7 e8 e9 e10 e11 e16
 have B5 := hk2_12
 clear hk2_12
 have zk2_12_0 : w.heap.size < k2_12 := by omega
 have zk2_12_1 : w.heap.size + 1 < k2_12 := by omega
 have zk2_12_2 : w.heap.size + 1 + 1 < k2_12 := by omega
 have zk2_12_3 : k1_12 < k2_12 := by omega
 have zk2_12_4 : k1_13 < k2_12 := by omega
 have B6 := hk2_13
 clear hk2_13
 have zk2_13_0 : w.heap.size < k2_13 := by omega
 have zk2_13_1 : w.heap.size + 1 < k2_13 := by omega
 have zk2_13_2 : w.heap.size + 1 + 1 < k2_13 := by omega
 have zk2_13_3 : k1_12 < k2_13 := by omega
 have zk2_13_4 : k1_13 < k2_13 := by omega
 clear lt_B0 lt_B1 lt_B2 lt_B3 lt_B4
 go_upto_region 3 with (fail)
 go_wp2_with (first | (refine zla (.tmp 12) B5 Try.underlying26 Try.size26 ?_) | (refine zla (.tmp 9) B3 Try.underlying26 Try.size26 ?_) | (go_at_call 31; refine (eqSkew_same _ _ (fun _ _ _ _ => rfl) _).mono ?_; rintro e W4 ⟨rfl, hW4⟩; replace B0 := B0.zw hW4; replace B1 := B1.zw hW4; replace B2 := B2.zw hW4; replace B3 := B3.zw hW4; replace B4 := B4.zw hW4; replace B5 := B5.zw hW4; replace B6 := B6.zw hW4; replace hb := (hb).trans (hW4.mono (hb).size)) | (refine zlg rfl 26 (.tmp 13) rfl _ rfl 512 26 _ (B6) _ Try.underlying26 rfl Try.size26 ?_) | (refine zlg rfl 26 (.tmp 10) rfl _ rfl 512 26 _ (B4) _ Try.underlying26 rfl Try.size26 ?_) | (go_at_call 31; refine (eqSkew_same _ _ (fun _ _ _ _ => rfl) _).mono ?_; rintro e W5 ⟨rfl, hW5⟩; replace B0 := B0.zw hW5; replace B1 := B1.zw hW5; replace B2 := B2.zw hW5; replace B3 := B3.zw hW5; replace B4 := B4.zw hW5; replace B5 := B5.zw hW5; replace B6 := B6.zw hW5; replace hb := (hb).trans (hW5.mono (hb).size)))
 go_ret
 exact ⟨rfl, hb⟩
end Go.Proofs.Yteloknnooebabaa
