/-
  What the rows of this claim rest on: arrays of bytes, walks of the functions, plain mathematics.
-/
import Derived.Test.YtoncepgcfifgbaaZb7
import Derived.WalkKit
import Derived.WalkSpells
import Derived.WalkLawsBesides
import Derived.Lib.Hide
import Derived.Laws.Rows
import Derived.Laws.CopyOwn
import Derived.Deep.QuietTactic
import Derived.Deep.WholeRow
import Derived.Deep.Draws
import Derived.Deep.MidRow
import Derived.Deep.CutRange
import Derived.Deep.DeepCutAuto
import Derived.Deep.RegionHeld3
import Derived.BigQuiet
import Derived.BigRegion
import Derived.Test.YtoncepgcfifgbaaRows
import Derived.Great.BuildSlice
import Derived.Laws.Tables
import Derived.Laws.StructEq
import Derived.ScopeJumps
import Derived.Deep.CutBlock
import Derived.OwnWalk
import Derived.RangeFuncNested
import Derived.RangeFuncBound
import Derived.RangeFuncCalls
import Derived.RangeFuncLeaves
import Derived.Shelf.Abstract
import Derived.Shelf.RegionOpen
import Derived.OwnWalkIn
import Derived.TacticsInMore
import Derived.LoopNIn
import Derived.LoopIn
import Derived.Maps.OwnOps
import Derived.DeepKeys4
import Derived.Carry
import Derived.Test.YtoncepgcfifgbaaProg
import Derived.OpenShut
section
namespace Go.Proofs.Ytoncepgcfifgbaa
open Go Go.RowKit
set_option linter.unusedVariables false
set_option linter.unusedSimpArgs false
attribute [local irreducible] ofN
/-- the list -/
def mpL (p n j : Nat) : List (Nat → Nat) := (List.range' (p ^ n) j).map (ofN p)
theorem mpL_len (p n j : Nat) : (mpL p n j).length = j := by unfold mpL; rw [List.length_map, List.length_range']
theorem mpL_zero (p n : Nat) : mpL p n 0 = [] := rfl
theorem mpL_snoc (p n j : Nat) : mpL p n (j + 1) = mpL p n j ++ [ofN p (p ^ n + j)] := by
 unfold mpL; rw [List.range'_concat, List.map_append, Nat.one_mul]; rfl
/-- both answers -/
def mpV (p n : Int) : List (Nat → Nat) × Int := if okP p then (if 0 ≤ n ∧ n ≤ 63 then (if p.toNat ^ n.toNat ≤ 343 then (mpL p.toNat n.toNat (p.toNat ^ n.toNat), 0) else ([], 3)) else ([], 2)) else ([], 1)
theorem mpV_1 {p n : Int} (h : okP p = false) : mpV p n = ([], 1) := by unfold mpV; rw [if_neg (by rw [h]; decide)]
theorem mpV_2 {p n : Int} (h : okP p = true) (h2 : ¬ (0 ≤ n ∧ n ≤ 63)) : mpV p n = ([], 2) := by unfold mpV; rw [if_pos h, if_neg h2]
theorem mpV_3 {p n : Nat} (h : okP (p : Int) = true) (h2 : n ≤ 63) (h3 : ¬ p ^ n ≤ 343) : mpV (p : Int) (n : Int) = ([], 3) := by unfold mpV; rw [if_pos h, if_pos (by omega), Int.toNat_natCast, Int.toNat_natCast, if_neg h3]
theorem mpV_0 {p n : Nat} (h : okP (p : Int) = true) (h2 : n ≤ 63) (h3 : p ^ n ≤ 343) : mpV (p : Int) (n : Int) = (mpL p n (p ^ n), 0) := by unfold mpV; rw [if_pos h, if_pos (by omega), Int.toNat_natCast, Int.toNat_natCast, if_pos h3]
theorem mpV_len (p n : Int) : (mpV p n).1.length ≤ 1000 := by
 unfold mpV
 split
 · split
   · split
     · rw [mpL_len]; omega
     · exact Nat.zero_le _
   · exact Nat.zero_le _
 · exact Nat.zero_le _
def MpF (p n : Int) (w : World) (e : Ending) (w' : World) : Prop := ∃ v, e = .returned (.tuple #[v, .int .i64 (mpV p n).2]) ∧ SlL w' w.heap.size 23 64 v (plR (mpV p n).1) ∧ Below w.heap.size w w'
/-- T^n and a number below -/
theorem ofN_plus {p n j : Nat} (hp : 2 ≤ p) (hj : j < p ^ n) (k : Nat) : upd (ofN p j) n 1 k = ofN p (p ^ n + j) k := by
 unfold upd
 by_cases e : k = n
 · subst e; rw [if_pos rfl]; exact (ofN_top hp (by omega) (by omega)).symm
 · rw [if_neg e]
   by_cases h : k < n
   · unfold ofN dgt
     obtain ⟨d, rfl⟩ : ∃ d, n = k + 1 + d := ⟨n - k - 1, by omega⟩
     have e1 : p ^ (k + 1 + d) = p ^ k * (p * p ^ d) := by rw [Nat.pow_add, Nat.pow_succ, Nat.mul_assoc]
     rw [e1, Nat.add_comm, Nat.add_mul_div_left _ _ (Nat.pow_pos (by omega)), Nat.add_mul_mod_self_left]
   · rw [ofN_high hp (n := n) (by omega) (by omega), ofN_high hp (n := n) (by omega) (by omega)]
set_option maxRecDepth 100000 in
set_option maxHeartbeats 3200000 in
theorem l01CountG (p n : Nat) (w : World) (hp1 : 2 ≤ p) (hp2 : p ≤ 7) (hn : n ≤ 63) :
 Calls Try.prog 99 #[.int .i64 (p : Int), .int .i64 (n : Int)] w fun e w' => (∃ c : Nat, e = .returned (.int .i64 (c : Int)) ∧ (p ^ n ≤ 343 → c = p ^ n) ∧ (343 < p ^ n → 343 < c)) ∧ w = w' := by
 go_enter Try.func99, Try.ntmps99
 go_wp2_with fail
 go_loopw [5, 1] (fun x i wr => ∃ k j X : Nat, k + j = n ∧ X = p ^ k ∧ X ≤ 7000000000000 ∧ x = .int .i64 (X : Int) ∧ i = .int .i64 (j : Int) ∧ wr = w) (fun _ i _ => (intOf i).toNat)
 case atStart => exact ⟨0, n, 1, by omega, rfl, by omega, rfl, rfl, rfl⟩
 case round =>
  obtain ⟨k, j, X, hk, hX, hXb, rfl, rfl, rfl⟩ := hrel
  have HK := Lib.hid hk
  have hj20 : j ≤ 63 := by omega
  have hmono : p ^ k ≤ p ^ n := Nat.pow_le_pow_right (by omega) (by omega)
  rw [← hX] at hmono
  have HMO := Lib.hid hmono
  clear hk hmono
  by_cases hb : X ≤ 1000000000000
  · have hbi : (X : Int) ≤ 1000000000000 := by omega
    by_cases hlt : 0 < j
    · have hm : ((X * p : Nat) : Int) ≤ 7000000000000 := by
       have : X * p ≤ 1000000000000 * 7 := Nat.mul_le_mul hb hp2
       omega
      have hm2 : 0 ≤ ((X * p : Nat) : Int) := by omega
      have HM := Lib.hid (show X * p ≤ 7000000000000 by omega)
      rw [Int.natCast_mul] at hm hm2
      have HX := Lib.hid hX; clear hX
      go_wp2_with fail
      go_roundw
      case rel => exact ⟨k + 1, j - 1, X * p, by have := HK.out; omega, by rw [Nat.pow_succ, ← HX.out], HM.out, by go_num, by rw [show ((j - 1 : Nat) : Int) = (j : Int) - 1 by omega], trivial⟩
      case measure => simp [intOf]; omega
    · have e : j = 0 := by omega
      subst e
      have hmn : (X : Int) < 1000000000001 := by omega
      have HV := Lib.hid (show X = p ^ n by rw [hX, show k = n by have := HK.out; omega])
      clear hX
      go_wp2_with fail
      go_ret
      exact ⟨⟨X, rfl, fun _ => HV.out, fun h => by rw [HV.out]; exact h⟩, rfl⟩
  · have hbi : ¬ (X : Int) ≤ 1000000000000 := by omega
    have hmn : ¬ (X : Int) < 1000000000001 := by omega
    have HV := Lib.hid (show 343 < p ^ n by have := HMO.out; omega)
    clear hX
    by_cases hlt : 0 < j
    · go_wp2_with fail
      all_goals go_ret
      all_goals first | exact ⟨⟨1000000000001, rfl, fun h => absurd h (by have := HV.out; omega), fun _ => by decide⟩, rfl⟩ | exact ⟨⟨X, rfl, fun h => absurd h (by have := HV.out; omega), fun _ => by omega⟩, rfl⟩
    · go_wp2_with fail
      all_goals go_ret
      all_goals first | exact ⟨⟨1000000000001, rfl, fun h => absurd h (by have := HV.out; omega), fun _ => by decide⟩, rfl⟩ | exact ⟨⟨X, rfl, fun h => absurd h (by have := HV.out; omega), fun _ => by omega⟩, rfl⟩
set_option maxRecDepth 100000 in
set_option maxHeartbeats 3200000 in
theorem spec_MonicPolys_any (p n : Int) (w : World) (hn1 : -9223372036854775808 ≤ n) (hn2 : n ≤ 9223372036854775807) :
 Calls Try.prog 33 #[.int .i64 p, .int .i64 n] w (MpF p n w) := by
 have hb : Below w.heap.size w w := Below.refl _ _
 go_enter Try.func33, Try.ntmps33
 cases hp : okP p with
 | false =>
  have HP := Lib.hid hp
  have HV := Lib.hid (mpV_1 (n := n) hp)
  clear hp
  go_wp2_with (first | (go_at_call 98; refine (l01Prime_any _ _).mono ?_; rintro e wS ⟨rfl, rfl⟩; rw [HP.out]))
  go_ret2
  exact ⟨_, by rw [HV.out]; rfl, by rw [HV.out]; exact (by rw [plR_nil]; exact SlL.nil _ _ hb.size), hb⟩
 | true =>
  by_cases hr : 0 ≤ n ∧ n ≤ 63
  · obtain ⟨n, rfl⟩ : ∃ j : Nat, n = (j : Int) := ⟨n.toNat, by omega⟩
    obtain ⟨p, rfl, p2, p7⟩ := okP_nat hp
    have hn63 : n ≤ 63 := by omega
    have HP := Lib.hid hp
    have HV3 := Lib.hid (fun h => mpV_3 (n := n) hp hn63 h)
    have HV0 := Lib.hid (fun h => mpV_0 (n := n) hp hn63 h)
    clear hp hn1 hn2
    obtain ⟨Q, hQ⟩ : ∃ Q, Q = p ^ n := ⟨_, rfl⟩
    rw [← hQ] at HV3 HV0
    have HQ := Lib.hid hQ
    have HCG := Lib.hid (fun W => l01CountG p n W p2 p7 hn63)
    rw [← hQ] at HCG
    clear hQ
    by_cases hq : Q ≤ 343
    · have HV := Lib.hid (HV0.out hq)
      have HC := Lib.hid (show ∀ W, Calls Try.prog 99 #[.int .i64 (p : Int), .int .i64 (n : Int)] W fun e w' => e = .returned (.int .i64 (Q : Int)) ∧ W = w' from fun W => (HCG.out W).mono (by rintro e w' ⟨⟨c, rfl, h1, h2⟩, rfl⟩; exact ⟨by rw [h1 hq], rfl⟩))
      clear HCG
      have hQi : (Q : Int) ≤ 343 := by omega
      have hn8 : n < 64 := by omega
      go_upto_region 8 with (first | (go_at_call 98; refine (l01Prime_any _ _).mono ?_; rintro e wS ⟨rfl, rfl⟩; rw [HP.out]) | (go_at_call 89; refine (l01In_any _ _ _ _).mono ?_; rintro e wS ⟨rfl, rfl⟩; rw [show decide ((0 : Int) ≤ (n : Int) ∧ (n : Int) ≤ 63) = true by simp; omega]) | (go_at_call 99; refine (HC.out _).mono ?_; rintro e wS ⟨rfl, rfl⟩))
      obtain ⟨base, hbase0⟩ : ∃ b, b = w.heap.size := ⟨_, rfl⟩
      have ybw : w.heap.size ≤ base := Nat.le_of_eq hbase0.symm
      have hS0 : SlL (w.alloc (.cells #[] 23)) base 23 64 (.slice (some ⟨w.heap.size, 0, none⟩) 0 0) (plR (mpL p n 0)) := by rw [mpL_zero, plR_nil]; exact slL_empty w 23 64 (Nat.le_of_eq hbase0)
      have hb1 : Below w.heap.size w (w.alloc (.cells #[] 23)) := hb.alloc hb.size _
      clear hbase0 hb
      go_wp2_with fail
      go_loopw [6, 7] (fun s i wr => ∃ (j : Nat) (lst : Value), lst = s ∧ i = .int .i64 (j : Int) ∧ j ≤ Q ∧ Below w.heap.size w wr ∧ SlL wr base 23 64 lst (plR (mpL p n j))) (fun _ i _ => Q - (intOf i).toNat)
      case atStart => exact ⟨0, _, rfl, rfl, Nat.zero_le _, hb1, hS0⟩
      case round =>
       clear hb1 hS0
       obtain ⟨j, lst, rfl, rfl, hjQ, hb, hS⟩ := hrel
       by_cases hj : j < Q
       · have hji : (j : Int) < (Q : Int) := by omega
         have HOF := Lib.hid (fun W => l01Of_any p j W p2 p7 (by omega))
         have HSN := Lib.hid (mpL_snoc p n j)
         have HPL := Lib.hid (fun k => ofN_plus (p := p) (n := n) (j := j) p2 (by rw [← HQ.out]; exact hj) k)
         rw [← HQ.out] at HSN HPL
         have B0 := hS.top
         have B1 : SzG wr.heap.size wr := Nat.le_refl _
         clear hS
         go_upto_region 11 with (first | (go_at_call 99; refine (HC.out _).mono ?_; rintro e wS ⟨rfl, rfl⟩))
         have lt_B0 := B0.lt
         have lt_B1 := B1.lt
         go_upto_region 12 with (first | rw [← z64] | (go_at_call 100; refine (HOF.out _).mono ?_; rintro e W1 ⟨rfl, hW1⟩; replace B0 := B0.zw hW1; replace B1 := B1.zw hW1; replace hb := (hb).trans (hW1.mono (hb).size)) | (refine wpList_store_blk rfl 23 (.tmp 8) (.tmp 32) rfl _ 64 (ofN p j) rfl rfl 23 _ ((Blk.new W1 64 23 (fun _ => 0))) Try.size23 ?_; try simp only [Act.put]))
         have lt_B0 := B0.lt
         have lt_B1 := B1.lt
         have lhb := hb.size
         obtain ⟨W2, hwo, hzQ⟩ : ∃ v : World, v = ((W1.alloc (.cells (zb 64 fun _ => 0) 23)).setRow (W1.heap.size) (zb 64 (ofN p j))) ∧ SlT v base wr.heap.size 23 64 lst (plR (mpL p n j)) ∧ SzG wr.heap.size v ∧ Blk v (W1.heap.size) 64 23 (ofN p j) ∧ Below w.heap.size w v := ⟨_, rfl, ((B0.alloc (.cells (zb 64 fun _ => 0) 23)).rowOther (by omega)), ((B1.alloc (.cells (zb 64 fun _ => 0) 23)).rowOther (by omega)), ((Blk.new W1 64 23 (fun _ => 0)).row (ofN p j)), (zr (hb.alloc (by have := hb.size; simp; omega) (.cells (zb 64 fun _ => 0) 23)) (by omega) _)⟩
         rw [← hwo]
         clear hwo B0 B1 hb
         obtain ⟨B0, B1, B2, hb⟩ := hzQ
         obtain ⟨N1, hNN⟩ : ∃ n : Nat, n = W1.heap.size := ⟨_, rfl⟩
         rw [← hNN] at lt_B0 lt_B1 lhb B2 ⊢
         clear hNN
         have zN1_0 := lt_B0
         have zN1_1 := lt_B1
         have zN1 := lhb
         clear lt_B0 lt_B1 lhb
         try simp only [Act.put, pA, pB, pC]
         clear HOF
         have cc := B2.cell (i := n) hn8
         have zz := B2.frozen n
         go_upto_region 13 with (fail)
         clear cc zz
         have lt_B0 := B0.lt
         have lt_B1 := B1.lt
         have lt_B2 := B2.lt
         have qB0 : SlT (W2.setCell ⟨N1, n, none⟩ (.int .u8 (1))) base wr.heap.size 23 64 lst (plR (mpL p n j)) := (B0.setOther (by dsimp only; omega))
         have qB1 : SzG wr.heap.size (W2.setCell ⟨N1, n, none⟩ (.int .u8 (1))) := (B1.setOther (by dsimp only; omega))
         have qB2 : Blk (W2.setCell ⟨N1, n, none⟩ (.int .u8 (1))) (N1) 64 23 (ofN p (Q + j)) := ((B2.set (v := 1) (rfl)).congr (fun k _ => HPL.out k))
         have qhb : Below w.heap.size w (W2.setCell ⟨N1, n, none⟩ (.int .u8 (1))) := (hb.setCell (by show w.heap.size ≤ (N1); omega) _)
         obtain ⟨W3, hwo⟩ : ∃ v : World, v = (W2.setCell ⟨N1, n, none⟩ (.int .u8 (1))) := ⟨_, rfl⟩
         rw [← hwo] at qB0 qB1 qB2 qhb ⊢
         clear hwo
         clear B0 B1 B2 hb
         have B0 := qB0
         have B1 := qB1
         have B2 := qB2
         have hb := qhb
         clear qB0 qB1 qB2 qhb
         try simp only [Act.put, pA, pB, pC]
         have lu_0 := B0.lt
         have lu_1 := B1.lt
         have lu_2 := B2.lt
         go_wp2_with (first | (refine zla (.tmp 8) B2 Try.underlying23 Try.size23 ?_) | (refine wpList_build_polys rfl 33 _ [ofN p (Q + j)] rfl 23 rfl Try.underlying33 Try.elem23 (by simp) (by simp) rfl ?_; intro wa hwa hps hba; clear hwa; have eB0 := B0.zw hba; have eB1 := B1.zw hba; have eB2 := B2.zw hba; have ehb := hb.trans (hba.mono hb.size)) | (at_builtin; refine wpList_append_sl _ rfl _ _ 33 rfl base 23 (.agg (zb 64 fun _ => 0)) 64 64 Try.underlying33 Try.infoPoly (by simp [Value.cells, bl]) (by decide) lst _ rfl eB0.1 W3.heap.size (bl 64 (ofN p (Q + j))) rfl (zl _ _) (by have := hps.range (i := 0) (f := ofN p (Q + j)) rfl; rwa [Nat.zero_mul] at this) bl_one (by rw [plR_len, mpL_len]; unfold maxLen; omega) (by rw [plR_len, mpL_len]; omega) ?_; intro vp wp hSp hg1; have fhb := ehb.grown hg1 ehb.size (fun k e => Nat.le_trans ybw (eB0.1.own k e))))
         go_roundw
         case rel => exact ⟨j + 1, vp, rfl, by go_num, by omega, fhb, (by rw [HSN.out, plR_snoc]; exact hSp)⟩
         case measure => simp [intOf] <;> omega
       · have hji : ¬ (j : Int) < (Q : Int) := by omega
         obtain rfl : j = Q := by omega
         go_wp2_with (first | (go_at_call 99; refine (HC.out _).mono ?_; rintro e wS ⟨rfl, rfl⟩))
         go_ret2
         exact ⟨_, by rw [HV.out]; rfl, by rw [HV.out]; exact hS.base ybw, hb⟩
    · have HV := Lib.hid (HV3.out hq)
      go_wp2_with (first | (go_at_call 98; refine (l01Prime_any _ _).mono ?_; rintro e wS ⟨rfl, rfl⟩; rw [HP.out]) | (go_at_call 89; refine (l01In_any _ _ _ _).mono ?_; rintro e wS ⟨rfl, rfl⟩; rw [show decide ((0 : Int) ≤ (n : Int) ∧ (n : Int) ≤ 63) = true by simp; omega]) | (go_at_call 99; refine (HCG.out _).mono ?_; rintro e wS ⟨⟨c, rfl, hc1, hc2⟩, rfl⟩; have hc3 : 343 < (c : Int) := (by have := hc2 (by omega); omega); clear hc1 hc2))
      go_ret2
      exact ⟨_, by rw [HV.out]; rfl, by rw [HV.out]; exact (by rw [plR_nil]; exact SlL.nil _ _ hb.size), hb⟩
  · have HP := Lib.hid hp
    have HV := Lib.hid (mpV_2 hp hr)
    clear hp
    go_wp2_with (first | (go_at_call 98; refine (l01Prime_any _ _).mono ?_; rintro e wS ⟨rfl, rfl⟩; rw [HP.out]) | (go_at_call 89; refine (l01In_any _ _ _ _).mono ?_; rintro e wS ⟨rfl, rfl⟩; rw [show decide ((0 : Int) ≤ n ∧ n ≤ 63) = false by simp; omega]))
    go_ret2
    exact ⟨_, by rw [HV.out]; rfl, by rw [HV.out]; exact (by rw [plR_nil]; exact SlL.nil _ _ hb.size), hb⟩
set_option maxRecDepth 100000 in
set_option maxHeartbeats 3200000 in
theorem impl_MonicPolys_any (p n : Int) (w : World) (hn1 : -9223372036854775808 ≤ n) (hn2 : n ≤ 9223372036854775807) :
 Calls Try.prog 34 #[.int .i64 p, .int .i64 n] w (MpF p n w) := by
 have hb : Below w.heap.size w w := Below.refl _ _
 go_enter Try.func34, Try.ntmps34
 cases hp : okP p with
 | false =>
  have HP := Lib.hid hp
  have HV := Lib.hid (mpV_1 (n := n) hp)
  clear hp
  go_wp2_with (first | (go_at_call 101; refine (isPrime_any _ _).mono ?_; rintro e wS ⟨rfl, rfl⟩; rw [HP.out]))
  go_ret2
  exact ⟨_, by rw [HV.out]; rfl, by rw [HV.out]; exact (by rw [plR_nil]; exact SlL.nil _ _ hb.size), hb⟩
 | true =>
  by_cases hr : 0 ≤ n ∧ n ≤ 63
  · obtain ⟨n, rfl⟩ : ∃ j : Nat, n = (j : Int) := ⟨n.toNat, by omega⟩
    obtain ⟨p, rfl, p2, p7⟩ := okP_nat hp
    have hn63 : n ≤ 63 := by omega
    have HP := Lib.hid hp
    have HV3 := Lib.hid (fun h => mpV_3 (n := n) hp hn63 h)
    have HV0 := Lib.hid (fun h => mpV_0 (n := n) hp hn63 h)
    clear hp hn1 hn2
    obtain ⟨Q, hQ⟩ : ∃ Q, Q = p ^ n := ⟨_, rfl⟩
    rw [← hQ] at HV3 HV0
    have HQ := Lib.hid hQ
    go_upto_region 6 with (first | (go_at_call 101; refine (isPrime_any _ _).mono ?_; rintro e wS ⟨rfl, rfl⟩; rw [HP.out]))
    go_wp2_with fail
    go_loopw [6, 19] (fun s i wr => ∃ j X : Nat, s = .int .i64 (X : Int) ∧ i = .int .i64 (j : Int) ∧ j ≤ n ∧ X = p ^ j ∧ X ≤ 343 ∧ w = wr) (fun _ i _ => n - (intOf i).toNat)
    case atStart => exact ⟨0, 1, rfl, rfl, Nat.zero_le _, rfl, by omega, rfl⟩
    case round =>
     obtain ⟨j, X, rfl, rfl, hjn, hX, hX3, rfl⟩ := hrel
     have HX := Lib.hid hX
     clear hX hQ
     by_cases hj : j < n
     · have hji : (j : Int) < (n : Int) := by omega
       have hm : ((X * p : Nat) : Int) ≤ 2401 := by
        have : X * p ≤ 343 * 7 := Nat.mul_le_mul hX3 p7
        omega
       have hm2 : 0 ≤ ((X * p : Nat) : Int) := by omega
       have HXP := Lib.hid (show X * p = p ^ (j + 1) by rw [Nat.pow_succ, ← HX.out])
       by_cases hbig : X * p ≤ 343
       · have hbi : ((X * p : Nat) : Int) ≤ 343 := by omega
         have HB := Lib.hid hbig
         rw [Int.natCast_mul] at hm hm2 hbi
         clear hbig
         go_wp2_with fail
         go_roundw
         case rel => exact ⟨j + 1, X * p, by go_num, by go_num, by omega, HXP.out, HB.out, trivial⟩
         case measure => simp [intOf] <;> omega
       · have hbi : 343 < ((X * p : Nat) : Int) := by omega
         have HV := Lib.hid (HV3.out (by
          have h1 : p ^ (j + 1) ≤ p ^ n := Nat.pow_le_pow_right (by omega) (by omega)
          rw [← HXP.out, ← HQ.out] at h1
          omega))
         rw [Int.natCast_mul] at hm hm2 hbi
         clear hbig
         go_wp2_with fail
         go_ret2
         exact ⟨_, by rw [HV.out]; rfl, by rw [HV.out]; exact (by rw [plR_nil]; exact SlL.nil _ _ hb.size), hb⟩
     · have hji : ¬ (j : Int) < (n : Int) := by omega
       obtain rfl : j = n := by omega
       obtain rfl : X = Q := by rw [HX.out, HQ.out]
       have HV := Lib.hid (HV0.out hX3)
       have hQi : (X : Int) ≤ 343 := by omega
       obtain ⟨base, hbase0⟩ : ∃ b, b = w.heap.size := ⟨_, rfl⟩
       have ybw : w.heap.size ≤ base := Nat.le_of_eq hbase0.symm
       have hS0 : SlL w base 23 64 (.slice none 0 0) (plR (mpL p j 0)) := by rw [mpL_zero, plR_nil]; exact SlL.nil _ _ (Nat.le_of_eq hbase0)
       clear hbase0
       go_wp2_with fail
       go_loopw [7, 8] (fun s i wr => ∃ (i0 : Nat) (lst : Value), lst = s ∧ i = .int .i64 ((X : Int) + (i0 : Int)) ∧ i0 ≤ X ∧ Below w.heap.size w wr ∧ SlL wr base 23 64 lst (plR (mpL p j i0))) (fun _ i _ => X + X - (intOf i).toNat)
       case atStart => exact ⟨0, _, rfl, by simp, Nat.zero_le _, hb, hS0⟩
       case round =>
        clear hb hS0
        obtain ⟨i0, lst, rfl, rfl, hiX, hb, hS⟩ := hrel
        by_cases hi : i0 < X
        · have hii : (X : Int) + (i0 : Int) < 2 * (X : Int) := by omega
          have HSN := Lib.hid (mpL_snoc p j i0)
          rw [← HX.out] at HSN
          have HOF := Lib.hid (show ∀ W, Calls Try.prog 102 #[.int .i64 (p : Int), .int .i64 ((X : Int) + (i0 : Int))] W fun e w' => e = .returned (.agg (zb 64 (ofN p (X + i0)))) ∧ Below W.heap.size W w' from fun W => polyOfNumber_any p (X + i0) W p2 p7 (by omega))
          have B0 := hS.top
          have B1 : SzG wr.heap.size wr := Nat.le_refl _
          clear hS
          go_wp2_with (first | (go_at_call 102; refine (HOF.out _).mono ?_; rintro e W1 ⟨rfl, hW2⟩; replace B0 := B0.zw hW2; replace B1 := B1.zw hW2; replace hb := hb.trans (hW2.mono hb.size)) | (refine wpList_build_polys rfl 33 _ [ofN p (X + i0)] rfl 23 rfl Try.underlying33 Try.elem23 (by simp) (by simp) rfl ?_; intro wa hwa hps hba; clear hwa; have eB0 := B0.zw hba; have eB1 := B1.zw hba; have ehb := hb.trans (hba.mono hb.size)) | (at_builtin; refine wpList_append_sl _ rfl _ _ 33 rfl base 23 (.agg (zb 64 fun _ => 0)) 64 64 Try.underlying33 Try.infoPoly (by simp [Value.cells, bl]) (by decide) lst _ rfl eB0.1 W1.heap.size (bl 64 (ofN p (X + i0))) rfl (zl _ _) (by have := hps.range (i := 0) (f := ofN p (X + i0)) rfl; rwa [Nat.zero_mul] at this) bl_one (by rw [plR_len, mpL_len]; unfold maxLen; omega) (by rw [plR_len, mpL_len]; omega) ?_; intro vp wp hSp hg1; have fhb := ehb.grown hg1 ehb.size (fun k e => Nat.le_trans ybw (eB0.1.own k e))))
          go_roundw
          case rel => exact ⟨i0 + 1, vp, rfl, by go_num, by omega, fhb, (by rw [HSN.out, plR_snoc]; exact hSp)⟩
          case measure => simp [intOf] <;> omega
        · have hii : ¬ (X : Int) + (i0 : Int) < 2 * (X : Int) := by omega
          obtain rfl : i0 = X := by omega
          go_wp2_with fail
          go_ret2
          exact ⟨_, by rw [HV.out]; rfl, by rw [HV.out]; exact hS.base ybw, hb⟩
  · have HP := Lib.hid hp
    have HV := Lib.hid (mpV_2 hp hr)
    clear hp
    by_cases h1 : n < 0
    · clear hr
      go_wp2_with (first | (go_at_call 101; refine (isPrime_any _ _).mono ?_; rintro e wS ⟨rfl, rfl⟩; rw [HP.out]))
      go_ret2
      exact ⟨_, by rw [HV.out]; rfl, by rw [HV.out]; exact (by rw [plR_nil]; exact SlL.nil _ _ hb.size), hb⟩
    · have h2 : 63 < n := by omega
      clear hr
      go_wp2_with (first | (go_at_call 101; refine (isPrime_any _ _).mono ?_; rintro e wS ⟨rfl, rfl⟩; rw [HP.out]))
      go_ret2
      exact ⟨_, by rw [HV.out]; rfl, by rw [HV.out]; exact (by rw [plR_nil]; exact SlL.nil _ _ hb.size), hb⟩
end Go.Proofs.Ytoncepgcfifgbaa
end
section
namespace Go.Proofs.Ytoncepgcfifgbaa
open Go.RowKit
set_option linter.unusedVariables false
set_option linter.unusedSimpArgs false
set_option maxRecDepth 100000 in
set_option maxHeartbeats 3200000 in
theorem FnExactMonicPolys_walk (p n : Int) (wp : (Lit.int .i64 p).wf = true) (wn : (Lit.int .i64 n).wf = true) (w : World) :
 Calls Try.prog 6 #[.int .i64 p, .int .i64 n] w fun e w' => e = .returned (.bool true) ∧ Below w.heap.size w w' := by
 have bdp := bounds_i64 wp
 have bdn := bounds_i64 wn
 have hR := (mpV_len p n)
 obtain ⟨K, hK⟩ : ∃ K, K = 1 + 64 * ((mpV p n).1).length := ⟨_, rfl⟩
 have hK1 : (K : Int) ≤ 1000000 := by omega
 have hK2 : ((K : Int) != (K : Int)) = false := by simp
 have hK3 : ¬ (K : Int) < 0 := by omega
 have hne : (((mpV p n).2) != ((mpV p n).2)) = false := by simp
 have HK := Lib.hid hK
 clear hK
 have HS := Lib.hid (fun W => spec_MonicPolys_any p n W bdn.1 bdn.2)
 have HI := Lib.hid (fun W => impl_MonicPolys_any p n W bdn.1 bdn.2)
 go_enter Try.func6, Try.ntmps6
 have hb : Below w.heap.size w w := Below.refl _ _
 go_upto_region 2 with (first | (go_at_call 33; refine (HS.out _).mono ?_; rintro e W2 ⟨v1, rfl, S1, h2⟩; have hzS1 := hb.size; replace hb := hb.trans (h2.mono hb.size)))
 obtain ⟨a1, cap1, rfl⟩ : ∃ a cap, v1 = .slice a ((mpV p n).1).length cap := by
  rcases S1.shape with ⟨h1, h2⟩ | ⟨g, cap, h1⟩
  · have h3 := congrArg List.length h2
    rw [plR_len] at h3
    exact ⟨_, _, by rw [h1, show ((mpV p n).1).length = 0 from h3]⟩
  · exact ⟨_, _, by rw [h1, plR_len]⟩
 have T1 := S1.top
 obtain ⟨top1, ht1⟩ : ∃ b, b = W2.heap.size := ⟨_, rfl⟩
 rw [← ht1] at T1
 have hsz := Nat.le_of_eq ht1
 clear ht1 S1
 go_upto_region 3 with (first | (go_at_call 34; refine (HI.out _).mono ?_; rintro e W4 ⟨v2, rfl, S2, h2⟩; have hzS2 := hb.size; replace T1 := T1.zw h2; replace hb := hb.trans (h2.mono hb.size)))
 obtain ⟨a2, cap2, rfl⟩ : ∃ a cap, v2 = .slice a ((mpV p n).1).length cap := by
  rcases S2.shape with ⟨h1, h2⟩ | ⟨g, cap, h1⟩
  · have h3 := congrArg List.length h2
    rw [plR_len] at h3
    exact ⟨_, _, by rw [h1, show ((mpV p n).1).length = 0 from h3]⟩
  · exact ⟨_, _, by rw [h1, plR_len]⟩
 have hap : ∀ r, (Value.slice a1 ((mpV p n).1).length cap1).ownBlock = some r → ∀ r2, (Value.slice a2 ((mpV p n).1).length cap2).ownBlock = some r2 → r ≠ r2 := fun r hr r2 hr2 => by
  have e1 := T1.2 r hr
  have e2 := S2.own r2 hr2
  omega
 obtain ⟨base2, hb2⟩ : ∃ b, b = W2.heap.size := ⟨_, rfl⟩
 rw [← hb2] at S2 hzS2
 have S1 := T1.1
 have HAP := Lib.hid hap
 clear hb2 T1 hap hsz
 go_upto_region 6 with (first | (go_at_call 35; refine (eqPolyS_same ((mpV p n).1) a2 a1 cap2 cap1 base2 _ _ S2 S1 hR).mono ?_; rintro e W5 ⟨rfl, h2⟩; replace S1 := S1.zw h2; replace S2 := S2.zw h2; replace hb := hb.trans (h2.mono hb.size)))
 go_upto_region 8 with (first | (go_at_call 36; refine (markPolyS_any ((mpV p n).1).length a2 cap2 base2 _ (S2.marksP (plR_len ..)) hR).mono ?_; rintro e W6 ⟨rfl, M2, hG⟩; rw [← HK.out]))
 have hown := S2.own
 replace hb := hb.grown hG hb.size (fun k e => Nat.le_trans hzS2 (hown k e))
 replace S1 := slL_apart S1 hG (by
  cases hv : (Value.slice a1 ((mpV p n).1).length cap1).ownBlock with
  | none => exact .inl rfl
  | some r =>
   refine .inr fun h => ?_
   exact HAP.out r hv r h.symm rfl)
 clear S2 hG hown
 go_upto_region 13 with (first | (go_at_call 37; refine (heldPolyS_any ((mpV p n).1).length a2 cap2 base2 _ M2 hR).mono ?_; rintro e wS ⟨rfl, rfl⟩; rw [← HK.out]))
 go_upto_region 14 with (first | (go_at_call 34; refine (HI.out _).mono ?_; rintro e W8 ⟨v3, rfl, S3, h2⟩; have hzS3 := hb.size; replace S1 := S1.zw h2; replace M2 := M2.below h2; replace hb := hb.trans (h2.mono hb.size)))
 obtain ⟨a3, cap3, rfl⟩ : ∃ a cap, v3 = .slice a ((mpV p n).1).length cap := by
  rcases S3.shape with ⟨h1, h2⟩ | ⟨g, cap, h1⟩
  · have h3 := congrArg List.length h2
    rw [plR_len] at h3
    exact ⟨_, _, by rw [h1, show ((mpV p n).1).length = 0 from h3]⟩
  · exact ⟨_, _, by rw [h1, plR_len]⟩
 go_upto_region 17 with (first | (go_at_call 35; refine (eqPolyS_same ((mpV p n).1) a3 a1 cap3 cap1 _ _ _ S3 S1 hR).mono ?_; rintro e W9 ⟨rfl, h2⟩; replace M2 := M2.below h2; replace hb := hb.trans (h2.mono hb.size)))
 clear S3 S1
 go_wp2_with (first | (go_at_call 37; refine (heldPolyS_any ((mpV p n).1).length a2 cap2 base2 _ M2 hR).mono ?_; rintro e wS ⟨rfl, rfl⟩; rw [← HK.out]))
 go_ret
 exact ⟨rfl, hb⟩
end Go.Proofs.Ytoncepgcfifgbaa
end
