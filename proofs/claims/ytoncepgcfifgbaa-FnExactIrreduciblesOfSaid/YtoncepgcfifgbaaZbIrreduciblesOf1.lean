/-
  What the rows of this claim rest on: arrays of bytes, walks of the functions, plain mathematics.
-/
import Derived.Test.YtoncepgcfifgbaaZb7
import Derived.OwnWalk
import Derived.Deep.MidRow
import Derived.Great.BuildSlice
import Derived.RangeFuncNested
import Derived.RangeFuncBound
import Derived.RangeFuncCalls
import Derived.RangeFuncLeaves
import Derived.Shelf.Abstract
import Derived.Shelf.RegionOpen
import Derived.OwnWalkIn
import Derived.TacticsInMore
import Derived.LoopNIn
import Derived.LoopIn
import Derived.Deep.CutBlock
import Derived.Laws.Tables
import Derived.Laws.StructEq
import Derived.WalkKit
import Derived.WalkSpells
import Derived.WalkLawsBesides
import Derived.Lib.Hide
import Derived.Laws.Rows
import Derived.Laws.CopyOwn
import Derived.Deep.QuietTactic
import Derived.Deep.WholeRow
import Derived.Deep.Draws
import Derived.Deep.CutRange
import Derived.Deep.DeepCutAuto
import Derived.Deep.RegionHeld3
import Derived.BigQuiet
import Derived.BigRegion
import Derived.Test.YtoncepgcfifgbaaRows
import Derived.ScopeJumps
import Derived.Maps.OwnOps
import Derived.DeepKeys4
import Derived.Carry
import Derived.Test.YtoncepgcfifgbaaProg
import Derived.OpenShut
section
namespace Go.Proofs.Ytoncepgcfifgbaa
open Go.RowKit
set_option linter.unusedVariables false
set_option linter.unusedSimpArgs false
theorem prime_four {p : Nat} (h : okP (p : Int) = true) : p = 2 ∨ p = 3 ∨ p = 5 ∨ p = 7 := by
 rcases okP_cases h with h | h | h | h <;> omega
end Go.Proofs.Ytoncepgcfifgbaa
end
section
namespace Go.Proofs.Ytoncepgcfifgbaa
open Go Go.RowKit
set_option linter.unusedVariables false
set_option linter.unusedSimpArgs false
attribute [local irreducible] ofN irB deg
/-- the list -/
noncomputable def irL (p n j : Nat) : List (Nat → Nat) := ((List.range' (p ^ n) j).filter fun N => irB p (ofN p N)).map (ofN p)
theorem irL_zero (p n : Nat) : irL p n 0 = [] := rfl
theorem irL_len (p n j : Nat) : (irL p n j).length ≤ j := by
 unfold irL; rw [List.length_map]; exact Nat.le_trans (List.length_filter_le _ _) (by rw [List.length_range']; exact Nat.le_refl _)
theorem irL_yes {p n j : Nat} (h : irB p (ofN p (p ^ n + j)) = true) : irL p n (j + 1) = irL p n j ++ [ofN p (p ^ n + j)] := by
 unfold irL; rw [List.range'_concat, List.filter_append, List.map_append, Nat.one_mul]; simp [h]
theorem irL_no {p n j : Nat} (h : irB p (ofN p (p ^ n + j)) = false) : irL p n (j + 1) = irL p n j := by
 unfold irL; rw [List.range'_concat, List.filter_append, List.map_append, Nat.one_mul]; simp [h]
/-- both answers -/
noncomputable def ilV (p n : Int) : List (Nat → Nat) × Int := if okP p then (if (1 ≤ n ∧ n ≤ 8) ∧ p.toNat ^ n.toNat ≤ 343 then (irL p.toNat n.toNat (p.toNat ^ n.toNat), 0) else ([], 2)) else ([], 1)
theorem ilV_1 {p n : Int} (h : okP p = false) : ilV p n = ([], 1) := by unfold ilV; rw [if_neg (by rw [h]; decide)]
theorem ilV_2 {p n : Int} (h : okP p = true) (h2 : ¬ (1 ≤ n ∧ n ≤ 8)) : ilV p n = ([], 2) := by unfold ilV; rw [if_pos h, if_neg (fun h3 => h2 h3.1)]
theorem ilV_3 {p n : Nat} (h : okP (p : Int) = true) (h3 : ¬ p ^ n ≤ 343) : ilV (p : Int) (n : Int) = ([], 2) := by unfold ilV; rw [if_pos h, if_neg (fun h4 => h3 (by have := h4.2; rwa [Int.toNat_natCast, Int.toNat_natCast] at this))]
theorem ilV_0 {p n : Nat} (h : okP (p : Int) = true) (h1 : 1 ≤ n) (h2 : n ≤ 8) (h3 : p ^ n ≤ 343) : ilV (p : Int) (n : Int) = (irL p n (p ^ n), 0) := by unfold ilV; rw [if_pos h, if_pos ⟨by omega, by rw [Int.toNat_natCast, Int.toNat_natCast]; exact h3⟩]; rfl
theorem ilV_len (p n : Int) : (ilV p n).1.length ≤ 1000 := by
 unfold ilV
 split
 · split
   · rename_i h; exact Nat.le_trans (irL_len _ _ _) (by omega)
   · exact Nat.zero_le _
 · exact Nat.zero_le _
def IlF (p n : Int) (w : World) (e : Ending) (w' : World) : Prop := ∃ v, e = .returned (.tuple #[v, .int .i64 (ilV p n).2]) ∧ SlL w' w.heap.size 23 64 v (plR (ilV p n).1) ∧ Below w.heap.size w w'
set_option maxRecDepth 100000 in
set_option maxHeartbeats 3200000 in
theorem spec_IrreduciblesOf_any (p n : Int) (w : World) (hn1 : -9223372036854775808 ≤ n) (hn2 : n ≤ 9223372036854775807) :
 Calls Try.prog 40 #[.int .i64 p, .int .i64 n] w (IlF p n w) := by
 have hb : Below w.heap.size w w := Below.refl _ _
 go_enter Try.func40, Try.ntmps40
 cases hp : okP p with
 | false =>
  have HP := Lib.hid hp
  have HV := Lib.hid (ilV_1 (n := n) hp)
  clear hp
  go_wp2_with (first | (go_at_call 98; refine (l01Prime_any _ _).mono ?_; rintro e wS ⟨rfl, rfl⟩; rw [HP.out]))
  go_ret2
  exact ⟨_, by rw [HV.out]; rfl, by rw [HV.out]; exact (by rw [plR_nil]; exact SlL.nil _ _ hb.size), hb⟩
 | true =>
  by_cases hr : 1 ≤ n ∧ n ≤ 8
  · obtain ⟨n, rfl⟩ : ∃ j : Nat, n = (j : Int) := ⟨n.toNat, by omega⟩
    obtain ⟨p, rfl, p2, p7⟩ := okP_nat hp
    have hpr := prime_four hp
    have hn1' : 1 ≤ n := by omega
    have hn8 : n ≤ 8 := by omega
    have HP := Lib.hid hp
    have HV3 := Lib.hid (fun h => ilV_3 (n := n) hp h)
    have HV0 := Lib.hid (fun h => ilV_0 (n := n) hp hn1' hn8 h)
    clear hp hn1 hn2
    obtain ⟨Q, hQ⟩ : ∃ Q, Q = p ^ n := ⟨_, rfl⟩
    rw [← hQ] at HV3 HV0
    have HQ := Lib.hid hQ
    have HC := Lib.hid (fun W => l01Count_any p n W p2 p7 (by omega))
    rw [← hQ] at HC
    have hQb : Q ≤ 13841287201 := by rw [hQ]; exact mon_bound p7 (by omega)
    clear hQ
    by_cases hq : Q ≤ 343
    · have HV := Lib.hid (HV0.out hq)
      have hQi : (Q : Int) ≤ 343 := by omega
      go_upto_region 6 with (first | (go_at_call 98; refine (l01Prime_any _ _).mono ?_; rintro e wS ⟨rfl, rfl⟩; rw [HP.out]) | (go_at_call 89; refine (l01In_any _ _ _ _).mono ?_; rintro e wS ⟨rfl, rfl⟩; rw [show decide ((1 : Int) ≤ (n : Int) ∧ (n : Int) ≤ 8) = true by simp; omega]) | (go_at_call 99; refine (HC.out _).mono ?_; rintro e wS ⟨rfl, rfl⟩))
      obtain ⟨base, hbase0⟩ : ∃ b, b = w.heap.size := ⟨_, rfl⟩
      have ybw : w.heap.size ≤ base := Nat.le_of_eq hbase0.symm
      have hS0 : SlL (w.alloc (.cells #[] 23)) base 23 64 (.slice (some ⟨w.heap.size, 0, none⟩) 0 0) (plR (irL p n 0)) := by rw [irL_zero, plR_nil]; exact slL_empty w 23 64 (Nat.le_of_eq hbase0)
      have hb1 : Below w.heap.size w (w.alloc (.cells #[] 23)) := hb.alloc hb.size _
      clear hbase0 hb
      go_wp2_with (first | (go_at_call 99; refine (HC.out _).mono ?_; rintro e wS ⟨rfl, rfl⟩))
      go_loopw [6, 7] (fun s i wr => ∃ (j : Nat) (lst : Value), lst = s ∧ i = .int .i64 ((Q : Int) + (j : Int)) ∧ j ≤ Q ∧ Below w.heap.size w wr ∧ SlL wr base 23 64 lst (plR (irL p n j))) (fun _ i _ => Q + Q - (intOf i).toNat)
      case atStart => exact ⟨0, _, rfl, by simp, Nat.zero_le _, hb1, hS0⟩
      case round =>
       clear hb1 hS0
       obtain ⟨j, lst, rfl, rfl, hjQ, hb, hS⟩ := hrel
       by_cases hj : j < Q
       · have hji : (Q : Int) + (j : Int) < 2 * (Q : Int) := by omega
         have hmem : Q + j ∈ monL p n := by rw [monL_mem, ← HQ.out]; omega
         have hmx := mon_ofN p2 (by omega : n < 64) hmem
         have HOF := Lib.hid (show ∀ W, Calls Try.prog 100 #[.int .i64 (p : Int), .int .i64 ((Q : Int) + (j : Int))] W fun e w' => e = .returned (.agg (zb 64 (ofN p (Q + j)))) ∧ Below W.heap.size W w' from fun W => l01Of_any p (Q + j) W p2 p7 (by omega))
         have HIR := Lib.hid (fun W => l01Irreducible_any p (ofN p (Q + j)) n W hpr (fun k _ => ofN_lt (by omega) _ k) hmx (by omega))
         have HLN := irL_len p n j
         have HYE := Lib.hid (irL_yes (p := p) (n := n) (j := j))
         have HNO := Lib.hid (irL_no (p := p) (n := n) (j := j))
         rw [← HQ.out] at HYE HNO
         clear hmem hmx
         have B0 := hS.top
         have B1 : SzG wr.heap.size wr := Nat.le_refl _
         clear hS
         go_upto_region 9 with (first | (go_at_call 99; refine (HC.out _).mono ?_; rintro e wS ⟨rfl, rfl⟩))
         have lt_B0 := B0.lt
         have lt_B1 := B1.lt
         go_upto_region 10 with (first | rw [← z64] | (go_at_call 100; refine (HOF.out _).mono ?_; rintro e W1 ⟨rfl, hW1⟩; replace B0 := B0.zw hW1; replace B1 := B1.zw hW1; replace hb := (hb).trans (hW1.mono (hb).size)) | (refine wpList_store_blk rfl 23 (.tmp 8) (.tmp 37) rfl _ 64 (ofN p (Q + j)) rfl rfl 23 _ ((Blk.new W1 64 23 (fun _ => 0))) Try.size23 ?_; try simp only [Act.put]))
         have lt_B0 := B0.lt
         have lt_B1 := B1.lt
         have lhb := hb.size
         obtain ⟨W2, hwo, hzQ⟩ : ∃ v : World, v = ((W1.alloc (.cells (zb 64 fun _ => 0) 23)).setRow (W1.heap.size) (zb 64 (ofN p (Q + j)))) ∧ SlT v base wr.heap.size 23 64 lst (plR (irL p n j)) ∧ SzG wr.heap.size v ∧ Blk v (W1.heap.size) 64 23 (ofN p (Q + j)) ∧ Below w.heap.size w v := ⟨_, rfl, ((B0.alloc (.cells (zb 64 fun _ => 0) 23)).rowOther (by omega)), ((B1.alloc (.cells (zb 64 fun _ => 0) 23)).rowOther (by omega)), ((Blk.new W1 64 23 (fun _ => 0)).row (ofN p (Q + j))), (zr (hb.alloc (by have := hb.size; simp; omega) (.cells (zb 64 fun _ => 0) 23)) (by omega) _)⟩
         rw [← hwo]
         clear hwo B0 B1 hb
         obtain ⟨B0, B1, B2, hb⟩ := hzQ
         obtain ⟨N1, hNN⟩ : ∃ n : Nat, n = W1.heap.size := ⟨_, rfl⟩
         rw [← hNN] at lt_B0 lt_B1 lhb B2 ⊢
         clear hNN
         have zN1_0 := lt_B0
         have zN1_1 := lt_B1
         have zN1 := lhb
         clear lt_B0 lt_B1 lhb
         try simp only [Act.put, pA, pB, pC]
         clear HOF
         cases hir : irB p (ofN p (Q + j)) with
         | true =>
          have HSN := Lib.hid (HYE.out hir)
          rw [hir] at HIR
          clear hir HYE HNO
          go_upto_region 11 with (first | (refine zla (.tmp 8) B2 Try.underlying23 Try.size23 ?_) | (go_at_call 105; refine (HIR.out _).mono ?_; rintro e W3 ⟨rfl, hW3⟩; replace B0 := B0.zw hW3; replace B1 := B1.zw hW3; replace B2 := B2.zw hW3; replace hb := (hb).trans (hW3.mono (hb).size)))
          clear HIR
          go_wp2_with (first | (refine zla (.tmp 8) B2 Try.underlying23 Try.size23 ?_) | (refine wpList_build_polys rfl 33 _ [ofN p (Q + j)] rfl 23 rfl Try.underlying33 Try.elem23 (by simp) (by simp) rfl ?_; intro wa hwa hps hba; clear hwa; have eB0 := B0.zw hba; have eB1 := B1.zw hba; have eB2 := B2.zw hba; have ehb := hb.trans (hba.mono hb.size)) | (at_builtin; refine wpList_append_sl _ rfl _ _ 33 rfl base 23 (.agg (zb 64 fun _ => 0)) 64 64 Try.underlying33 Try.infoPoly (by simp [Value.cells, bl]) (by decide) lst _ rfl eB0.1 W3.heap.size (bl 64 (ofN p (Q + j))) rfl (zl _ _) (by have := hps.range (i := 0) (f := ofN p (Q + j)) rfl; rwa [Nat.zero_mul] at this) bl_one (by rw [plR_len]; unfold maxLen; omega) (by rw [plR_len]; omega) ?_; intro vp wp hSp hg1; have fhb := ehb.grown hg1 ehb.size (fun k e => Nat.le_trans ybw (eB0.1.own k e))))
          go_roundw
          case rel => exact ⟨j + 1, vp, rfl, by go_num, by omega, fhb, (by rw [HSN.out, plR_snoc]; exact hSp)⟩
          case measure => simp [intOf] <;> omega
         | false =>
          have HSN := Lib.hid (HNO.out hir)
          rw [hir] at HIR
          clear hir HYE HNO
          go_upto_region 8 with (first | (refine zla (.tmp 8) B2 Try.underlying23 Try.size23 ?_) | (go_at_call 105; refine (HIR.out _).mono ?_; rintro e W3 ⟨rfl, hW3⟩; replace B0 := B0.zw hW3; replace B1 := B1.zw hW3; replace B2 := B2.zw hW3; replace hb := (hb).trans (hW3.mono (hb).size)))
          clear HIR
          go_wp2_with fail
          go_roundw
          case rel => exact ⟨j + 1, lst, rfl, by go_num, by omega, hb, (by rw [HSN.out]; exact B0.1)⟩
          case measure => simp [intOf] <;> omega
       · have hji : ¬ (Q : Int) + (j : Int) < 2 * (Q : Int) := by omega
         obtain rfl : j = Q := by omega
         go_wp2_with (first | (go_at_call 99; refine (HC.out _).mono ?_; rintro e wS ⟨rfl, rfl⟩))
         go_ret2
         exact ⟨_, by rw [HV.out]; rfl, by rw [HV.out]; exact hS.base ybw, hb⟩
    · have HV := Lib.hid (HV3.out hq)
      have hc3 : 343 < (Q : Int) := by omega
      go_wp2_with (first | (go_at_call 98; refine (l01Prime_any _ _).mono ?_; rintro e wS ⟨rfl, rfl⟩; rw [HP.out]) | (go_at_call 89; refine (l01In_any _ _ _ _).mono ?_; rintro e wS ⟨rfl, rfl⟩; rw [show decide ((1 : Int) ≤ (n : Int) ∧ (n : Int) ≤ 8) = true by simp; omega]) | (go_at_call 99; refine (HC.out _).mono ?_; rintro e wS ⟨rfl, rfl⟩))
      go_ret2
      exact ⟨_, by rw [HV.out]; rfl, by rw [HV.out]; exact (by rw [plR_nil]; exact SlL.nil _ _ hb.size), hb⟩
  · have HP := Lib.hid hp
    have HV := Lib.hid (ilV_2 hp hr)
    clear hp
    go_wp2_with (first | (go_at_call 98; refine (l01Prime_any _ _).mono ?_; rintro e wS ⟨rfl, rfl⟩; rw [HP.out]) | (go_at_call 89; refine (l01In_any _ _ _ _).mono ?_; rintro e wS ⟨rfl, rfl⟩; rw [show decide ((1 : Int) ≤ n ∧ n ≤ 8) = false by simp; omega]))
    go_ret2
    exact ⟨_, by rw [HV.out]; rfl, by rw [HV.out]; exact (by rw [plR_nil]; exact SlL.nil _ _ hb.size), hb⟩
end Go.Proofs.Ytoncepgcfifgbaa
end
section
namespace Go.Proofs.Ytoncepgcfifgbaa
open Go Go.RowKit
set_option linter.unusedVariables false
set_option linter.unusedSimpArgs false
attribute [local irreducible] ofN irB deg
noncomputable def irM (p : Nat) (l : List Nat) : List (Nat → Nat) := (l.filter fun N => irB p (ofN p N)).map (ofN p)
theorem irM_nil (p : Nat) : irM p [] = [] := rfl
theorem irM_yes {p x : Nat} {l : List Nat} (h : irB p (ofN p x) = true) : irM p (l ++ [x]) = irM p l ++ [ofN p x] := by
 unfold irM; rw [List.filter_append, List.map_append]; simp [h]
theorem irM_no {p x : Nat} {l : List Nat} (h : irB p (ofN p x) = false) : irM p (l ++ [x]) = irM p l := by
 unfold irM; rw [List.filter_append, List.map_append]; simp [h]
theorem irM_len (p : Nat) (l : List Nat) : (irM p l).length ≤ l.length := by
 unfold irM; rw [List.length_map]; exact List.length_filter_le _ _
theorem irM_all (p n : Nat) : irL p n (p ^ n) = irM p (monL p n) := rfl
theorem irV_up2 {p n : Nat} {f : Nat → Nat} (h : mon f n) (h1 : 1 ≤ n) (h2 : n ≤ 12) : irV p f = irB p f := by
 have h3 : monUp 12 f = true := by
  rw [monUp_B]
  have hB : monB f = true := by
   unfold monB
   rw [h.1]
   have := h.2
   simp [this]
  rw [hB, h.1]; simp; omega
 unfold irV; rw [h3]; rfl
/-- what stands between two rounds -/
def IlI (p n : Nat) (n0 b2 b6 ba bb bp : Nat) (w : World) (pre : List (MonN p n)) (W : World) : Prop :=
 One W b2 2 (.int .i64 (p : Int)) ∧ (∃ v, One W b6 33 v ∧ SlL W n0 23 64 v (plR (irM p (vals pre)))) ∧
  One W ba 2 (.int .i64 ((p ^ n : Nat) : Int)) ∧ One W bb 2 (.int .i64 ((p ^ n + p ^ n : Nat) : Int)) ∧ One W bp 2 (.int .i64 (p : Int)) ∧ Below w.heap.size w W
theorem ilI_own {p n : Nat} {n0 b2 b6 ba bb bp : Nat} {w : World} (h2 : b2 < n0) (h6 : b6 < n0) (ha : ba < n0) (hbb : bb < n0) (hp : bp < n0) (hw : w.heap.size ≤ n0) : OwnFrom n0 (IlI p n n0 b2 b6 ba bb bp w) := by
 intro pre W W' row h hg hr
 obtain ⟨a2, ⟨v, a6, aS⟩, aa, ab, ap, hb⟩ := h
 have h1 : ∀ r, row = some r → n0 ≤ r := fun r e => (hr r e).1
 exact ⟨a2.grownO hg h1 h2, ⟨v, a6.grownO hg h1 h6, aS.grownN hg (fun r e => (hr r e).2)⟩, aa.grownO hg h1 ha, ab.grownO hg h1 hbb, ap.grownO hg h1 hp,
  hb.grown hg hb.size (fun k e => Nat.le_trans hw (h1 k e))⟩
theorem ilI_below {p n : Nat} {n0 b2 b6 ba bb bp : Nat} {w W W' : World} {pre : List (MonN p n)} (h : IlI p n n0 b2 b6 ba bb bp w pre W) (hB : Below W.heap.size W W') : IlI p n n0 b2 b6 ba bb bp w pre W' := by
 obtain ⟨a2, ⟨v, a6, aS⟩, aa, ab, ap, hb⟩ := h
 exact ⟨a2.zw hB, ⟨v, a6.zw hB, aS.zw hB⟩, aa.zw hB, ab.zw hB, ap.zw hB, hb.trans (hB.mono hb.size)⟩
theorem ilI_start {p n : Nat} {n0 b2 b6 ba bb bp : Nat} {w W : World} (a2 : One W b2 2 (.int .i64 (p : Int))) (a6 : One W b6 33 (.slice none 0 0))
 (aa : One W ba 2 (.int .i64 ((p ^ n : Nat) : Int))) (ab : One W bb 2 (.int .i64 ((p ^ n + p ^ n : Nat) : Int))) (ap : One W bp 2 (.int .i64 (p : Int))) (hb : Below w.heap.size w W) (h0 : n0 = W.heap.size) : IlI p n n0 b2 b6 ba bb bp w [] W := by
 unfold IlI
 rw [vals_nil, irM_nil, plR_nil]
 exact ⟨a2, ⟨_, a6, SlL.nil _ _ (by omega)⟩, aa, ab, ap, hb⟩
set_option maxRecDepth 100000 in
set_option maxHeartbeats 6400000 in
theorem irrs_core (p n : Nat) (w : World) (hpr : p = 2 ∨ p = 3 ∨ p = 5 ∨ p = 7) (hok : okP (p : Int) = true) (hn1 : 1 ≤ n) (hn : n ≤ 8) (hq : p ^ n ≤ 343) :
 Calls Try.prog 41 #[.int .i64 (p : Int), .int .i64 (n : Int)] w fun e w' => ∃ v, e = .returned (.tuple #[v, .int .i64 0]) ∧ SlL w' w.heap.size 23 64 v (plR (irL p n (p ^ n))) ∧ Below w.heap.size w w' := by
 have p2 : 2 ≤ p := by omega
 have p7 : p ≤ 7 := by omega
 have p0 : 0 < p := by omega
 have HOK := Lib.hid hok
 obtain ⟨Q, hQ⟩ : ∃ Q, Q = p ^ n := ⟨_, rfl⟩
 have HNM := Lib.hid (fun W => norm_any p n W p2 p7 (by omega))
 rw [← hQ] at HNM hq ⊢
 have hqi : (Q : Int) ≤ 343 := by omega
 have HQ := Lib.hid hQ
 clear hok hQ
 refine callsIn_wide.1 (callsIn_of_wp_marks (n := 9) Try.func41 rfl trivial (wpIn_wide.2 ?_) rfl)
 simp only [Try.ntmps41, List.size_toArray, List.length_cons, List.length_nil, Nat.reduceAdd, Nat.reduceSub, Array.replicate_succ, Array.replicate_zero, List.push_toArray, List.append_toArray, List.nil_append, List.cons_append]
 go_upto_region 1 with (fail)
 obtain ⟨W1, hwo⟩ : ∃ v : World, v = (w.alloc (.cells #[(.int .i64 (p : Int))] 2)) := ⟨_, rfl⟩
 have B0 : One W1 (w.heap.size) 2 (.int .i64 (p : Int)) := by subst hwo; have := (One.new w 2 (.int .i64 (p : Int))); simpa using this
 have hb : Below w.heap.size w W1 := by subst hwo; exact ((Below.refl _ _).alloc (Nat.le_refl _) _)
 rw [← hwo]
 clear hwo
 have cc := B0.cell
 go_upto_region 5 with (first | (go_at_call 101; refine (isPrime_any _ _).mono ?_; rintro e wS ⟨rfl, rfl⟩; rw [HOK.out]) | (go_at_call 108; refine (HNM.out _).mono ?_; rintro e wS ⟨rfl, rfl⟩))
 clear cc
 go_upto_region 6 with (first | rw [← z64])
 have lt_B0 := B0.lt
 have lhb := hb.size
 obtain ⟨W2, hwo, hzQ⟩ : ∃ v : World, v = (W1.alloc (.cells #[(.slice none 0 0)] 33)) ∧ One v (w.heap.size) 2 (.int .i64 (p : Int)) ∧ One v (W1.heap.size) 33 (.slice none 0 0) ∧ Below w.heap.size w v := ⟨_, rfl, (B0.alloc (.cells #[(.slice none 0 0)] 33)), (One.new W1 33 (.slice none 0 0)), (hb.alloc (by have := hb.size; simp; omega) (.cells #[(.slice none 0 0)] 33))⟩
 rw [← hwo]
 clear hwo B0 hb
 obtain ⟨B0, B1, hb⟩ := hzQ
 obtain ⟨N1, hNN⟩ : ∃ n : Nat, n = W1.heap.size := ⟨_, rfl⟩
 rw [← hNN] at lt_B0 lhb B1 ⊢
 clear hNN
 have zN1_0 := lt_B0
 have zN1 := lhb
 clear lt_B0 lhb
 try simp only [Act.put, pA, pB, pC]
 go_upto_block 0 with (first | (refine zlo rfl 2 (.tmp 2) rfl _ rfl 2 ((.int .i64 (p : Int))) (B0) _ Try.underlying2 rfl ?_) | (go_at_call 109; refine (monics_any p n _ p2 p7 (by omega)).mono ?_; rintro e WM ⟨ba, bb, bp, rfl, hba0, hbb0, hbp0, C0, C1, C2, hWM⟩))
 have na_0 : (w.heap.size) < ba := by have := B0.lt; omega
 have nb_0 : (w.heap.size) < bb := by have := B0.lt; omega
 have np_0 : (w.heap.size) < bp := by have := B0.lt; omega
 have na_1 : (N1) < ba := by have := B1.lt; omega
 have nb_1 : (N1) < bb := by have := B1.lt; omega
 have np_1 : (N1) < bp := by have := B1.lt; omega
 replace B0 := B0.zw hWM
 replace B1 := B1.zw hWM
 replace hb := hb.trans (hWM.mono hb.size)
 clear hba0 hbb0 hbp0 hWM
 have lB0 : (w.heap.size) < WM.heap.size := B0.lt
 have lB1 : (N1) < WM.heap.size := B1.lt
 have lC0 : ba < WM.heap.size := C0.lt
 have lC1 : bb < WM.heap.size := C1.lt
 have lC2 : bp < WM.heap.size := C2.lt
 have lw : w.heap.size ≤ WM.heap.size := hb.size
 have d1 : decide ((n : Int) < 1) = false := by simp; omega
 have d2 : decide (20 < (n : Int)) = false := by simp; omega
 have d3 : decide (343 < (Q : Int)) = false := by simp; omega
 simp only [d1, d2, d3, Bool.or_false]
 clear d1 d2 d3
 refine (wpIn_wide (n := 9)).1 (wpIn_block ?_)
 refine wpIn_rangeFunc_ownH (F := Fence.wide) (n := 9) rfl (by omega) (gf := 177) (lb := #[.pointer (some ⟨ba, 0, none⟩), .pointer (some ⟨bb, 0, none⟩), .pointer (some ⟨bp, 0, none⟩)]) rfl trivial (enters_of Try.func177 (by kernel_rfl) rfl)
  (numbered1_stops 8 p (p ^ n) (p ^ n) p2 p7 (mon_bound p7 (by omega)) (mon_bound p7 (by omega)) ba bb bp WM C0 C1 C2) KpN.trans (KpN.put C0.lt C1.lt C2.lt) (Below.refl _ _) (fun _ => rfl)
  (IlI p n WM.heap.size (w.heap.size) (N1) ba bb bp w) (fun c pre W => False)
  (ilI_own lB0 lB1 lC0 lC1 lC2 lw)
  (by intro c pre W W' row h hg hr; exact h)
  (ilI_start B0 B1 C0 C1 C2 hb rfl)
  (fun (x : MonN p n) (a' : Act) (W : World) => ∃ b8, WM.heap.size ≤ b8 ∧ Blk W b8 64 23 (ofN p x.1) ∧ a' = { tmps := #[(.int .i64 (p : Int)), (.int .i64 (n : Int)), (.pointer (some ⟨w.heap.size, 0, none⟩)), undef, (.slice none 0 0), (.int .i64 0), (.pointer (some ⟨N1, 0, none⟩)), (.pointer (some ⟨b8, 0, none⟩)), (.int .i64 (p : Int)), (.bool true), (.bool false), (.int .i64 (n : Int)), (.bool false), (.bool false), (.int .i64 (n : Int)), (.bool false), (.bool false), (.bool false), (.int .i64 (p : Int)), (.int .i64 (n : Int)), (.int .i64 (Q : Int)), (.bool false), (.bool false), (.int .i64 (p : Int)), (.int .i64 (n : Int)), (.func (.func 177) #[] #[.pointer (some ⟨ba, 0, none⟩), .pointer (some ⟨bb, 0, none⟩), .pointer (some ⟨bp, 0, none⟩)]), (.agg (zb 64 (ofN p x.1))), undef, undef, undef, undef, undef, undef, undef, undef], defers := [] })
  (by
   rintro x a' _ W W' row ⟨b8, h8, hB, rfl⟩ hg hr
   exact ⟨b8, h8, by
    unfold Blk at *
    rw [hg.block b8 (Array.getElem?_eq_some_iff.1 hB).1 (fun e => by
     obtain ⟨_, o, ho, hc⟩ := hr b8 e.symm
     rw [hB] at ho; cases ho; cases hc)]
    exact hB, rfl⟩) ?assign ?body ?done ?stop
 all_goals clear B0 B1 C0 C1 C2 hb
 case assign =>
  intro l pre x W K hi hK
  refine regionIn_of (nd_of (by rfl)) (fun _ _ h => h) ?_
  unfold numEnc
  have hN : Blk (W.alloc (.cells (zb 64 fun _ => 0) 23)) W.heap.size 64 23 (fun _ => 0) := Blk.new W 64 23 _
  go_wp2_with (first | rw [← z64] | (refine zsr (.tmp 7) (.tmp 26) (ofN p x.1) hN Try.size23 ?_))
  have hBB : Below W.heap.size W ((W.alloc (.cells (zb 64 fun _ => 0) 23)).setRow W.heap.size (zb 64 (ofN p x.1))) := zr (zal _ _) (Nat.le_refl _) _
  have hi2 := hi
  obtain ⟨_, ⟨v, _, aS⟩, aa, ab, ap, _⟩ := hi
  have z0 := aS.lt
  refine hK _ _ ((KF.refl _ W).below hBB (Nat.le_refl _)) ⟨hBB.block _ aa.lt, hBB.block _ ab.lt, hBB.block _ ap.lt⟩ (ilI_below hi2 hBB) ⟨W.heap.size, z0, hN.row _, rfl⟩
 case body =>
  rintro l pre ⟨x, hx⟩ a' W hl _ hi ⟨bx, h8, B2, rfl⟩ hlen
  unfold IlI at hi
  obtain ⟨B0, ⟨vv, B1, B3⟩, B4, B5, B6, hb⟩ := hi
  have HP0 := Lib.hid (show One W bp 2 (.int .i64 (p : Int)) from B6)
  have HA0 := Lib.hid (show One W ba 2 (.int .i64 ((p ^ n : Nat) : Int)) from B4)
  have HB0 := Lib.hid (show One W bb 2 (.int .i64 ((p ^ n + p ^ n : Nat) : Int)) from B5)
  have B7 := KF.refl WM.heap.size W
  replace B3 := B3.top
  replace B2 : Blk W bx 64 23 (ofN p x) := B2
  have lt8 := B2.lt
  have hpl : pre.length < Q := by rw [HQ.out]; exact hlen
  have hLen2 : (irM p (vals pre)).length < 343 := by have := irM_len p (vals pre); rw [vals_len] at this; omega
  have zWM := B3.lt
  have hm := mon_ofN p2 (by omega : n < 64) hx
  have HIR := Lib.hid (fun W => isIrreducible_any p (ofN p x) W hpr (fun k _ => ofN_lt p0 x k))
  rw [irV_up2 hm hn1 (by omega)] at HIR
  have HYE := Lib.hid (irM_yes (p := p) (x := x) (l := vals pre))
  have HNO := Lib.hid (irM_no (p := p) (x := x) (l := vals pre))
  clear hlen hpl hm hl
  refine wpIn_block ?_
  refine wpIn_seq ?_
  refine regionIn_of (nd_of (by rfl)) (fun _ _ h => h) ?_
  cases hir : irB p (ofN p x) with
  | false =>
   have HSN := Lib.hid (HNO.out hir)
   rw [hir] at HIR
   clear hir HYE HNO
   go_wp2_with (first | (refine zlo rfl 2 (.tmp 2) rfl _ rfl 2 ((.int .i64 (p : Int))) (B0) _ Try.underlying2 rfl ?_) | (refine zla (.tmp 7) B2 Try.underlying23 Try.size23 ?_) | (go_at_call 107; refine (HIR.out _).mono ?_; rintro e W3 ⟨rfl, hW3⟩; replace B0 := B0.zw hW3; replace B1 := B1.zw hW3; replace B2 := B2.zw hW3; replace B3 := B3.zw hW3; replace B4 := B4.zw hW3; replace B5 := B5.zw hW3; replace B6 := B6.zw hW3; replace B7 := B7.zw hW3; replace hb := (hb).trans (hW3.mono (hb).size)))
   clear HIR
   refine wpIn_cond_false rfl ?_
   refine wpIn_skip ?_
   exact ⟨B7, (show KpN ba bb bp W W3 from ⟨One.same HA0.out B4, One.same HB0.out B5, One.same HP0.out B6⟩), (show IlI p n WM.heap.size (w.heap.size) (N1) ba bb bp w (pre ++ [⟨x, hx⟩]) W3 by unfold IlI; rw [vals_snoc, HSN.out]; exact ⟨B0, ⟨_, B1, B3.1⟩, B4, B5, B6, hb⟩)⟩
  | true =>
   have HSN := Lib.hid (HYE.out hir)
   rw [hir] at HIR
   clear hir HYE HNO
   go_wp2_with (first | (refine zlo rfl 2 (.tmp 2) rfl _ rfl 2 ((.int .i64 (p : Int))) (B0) _ Try.underlying2 rfl ?_) | (refine zla (.tmp 7) B2 Try.underlying23 Try.size23 ?_) | (go_at_call 107; refine (HIR.out _).mono ?_; rintro e W3 ⟨rfl, hW3⟩; replace B0 := B0.zw hW3; replace B1 := B1.zw hW3; replace B2 := B2.zw hW3; replace B3 := B3.zw hW3; replace B4 := B4.zw hW3; replace B5 := B5.zw hW3; replace B6 := B6.zw hW3; replace B7 := B7.zw hW3; replace hb := (hb).trans (hW3.mono (hb).size)))
   clear HIR
   refine wpIn_cond_true rfl ?_
   refine regionIn_of (nd_of (by rfl)) (fun _ _ h => h) ?_
   have lu_0 := B0.lt
   have lu_1 := B1.lt
   have lu_4 := B4.lt
   have lu_5 := B5.lt
   have lu_6 := B6.lt
   go_wp2_with (first | (refine zlo rfl 33 (.tmp 6) rfl _ rfl 33 vv B1 _ Try.underlying33 rfl ?_) | (refine zla (.tmp 7) B2 Try.underlying23 Try.size23 ?_) | (refine wpList_build_polys rfl 33 _ [ofN p x] rfl 23 rfl Try.underlying33 Try.elem23 (by simp) (by simp) rfl ?_; intro wa hwa hps hba; clear hwa; have eB0 := B0.zw hba; have eB1 := B1.zw hba; have eB2 := B2.zw hba; have eB3 := B3.zw hba; have eB4 := B4.zw hba; have eB5 := B5.zw hba; have eB6 := B6.zw hba; have eB7 := B7.zw hba; have ehb := hb.trans (hba.mono hb.size)) | (at_builtin; refine wpList_append_sl _ rfl _ _ 33 rfl WM.heap.size 23 (.agg (zb 64 fun _ => 0)) 64 64 Try.underlying33 Try.infoPoly (by simp [Value.cells, bl]) (by decide) vv _ rfl eB3.1 W3.heap.size (bl 64 (ofN p x)) rfl (zl _ _) (by have := hps.range (i := 0) (f := ofN p x) rfl; rwa [Nat.zero_mul] at this) bl_one (by rw [plR_len]; unfold maxLen; omega) (by rw [plR_len]; omega) ?_; intro vp wp hSp hg1; have fB0 := eB0.grownO hg1 (eB3.1.own) (base := WM.heap.size) (by omega); have fB1 := eB1.grownO hg1 (eB3.1.own) (base := WM.heap.size) (by omega); have fB4 := eB4.grownO hg1 (eB3.1.own) (base := WM.heap.size) (by omega); have fB5 := eB5.grownO hg1 (eB3.1.own) (base := WM.heap.size) (by omega); have fB6 := eB6.grownO hg1 (eB3.1.own) (base := WM.heap.size) (by omega); have fB7 := eB7.grown hg1 (fun r e => by obtain ⟨cur, hc⟩ := eB3.1.ownCells r e; exact ⟨cur, _, _, hc⟩); have fhb := ehb.grown hg1 ehb.size (fun k e => Nat.le_trans lw (eB3.1.own k e))) | (refine wpList_store_oneV rfl 33 (.tmp 6) (.tmp 33) rfl _ rfl vp rfl hSp.one 33 vv fB1 Try.sizeSl ?_))
   have fl : WM.heap.size ≤ wp.heap.size := hSp.lt
   have gB0 : One (wp.setRow (N1) #[vp]) (w.heap.size) 2 (.int .i64 (p : Int)) := fB0.rowOther (by omega)
   have gB1 : One (wp.setRow (N1) #[vp]) (N1) 33 vp := fB1.row vp
   have gB4 : One (wp.setRow (N1) #[vp]) (ba) 2 (.int .i64 ((p ^ n : Nat) : Int)) := fB4.rowOther (by omega)
   have gB5 : One (wp.setRow (N1) #[vp]) (bb) 2 (.int .i64 ((p ^ n + p ^ n : Nat) : Int)) := fB5.rowOther (by omega)
   have gB6 : One (wp.setRow (N1) #[vp]) (bp) 2 (.int .i64 (p : Int)) := fB6.rowOther (by omega)
   have gB7 : KF WM.heap.size W (wp.setRow (N1) #[vp]) := fB7.rowOther (by omega)
   have gS : SlL (wp.setRow (N1) #[vp]) WM.heap.size 23 64 vp (plR (irM p (vals pre) ++ [ofN p x])) := by rw [plR_snoc]; exact hSp.rowOther (by omega)
   have ghb : Below w.heap.size w (wp.setRow (N1) #[vp]) := zr fhb (by omega) _
   exact ⟨gB7, ⟨One.same HA0.out gB4, One.same HB0.out gB5, One.same HP0.out gB6⟩, (show IlI p n WM.heap.size (w.heap.size) (N1) ba bb bp w (pre ++ [⟨x, hx⟩]) _ by unfold IlI; rw [vals_snoc, HSN.out]; exact ⟨gB0, ⟨_, gB1, gS⟩, gB4, gB5, gB6, ghb⟩)⟩
 case done =>
  rintro D ys W hD hS hi hK
  unfold IlI at hi
  rw [show vals ys = monL p n from hS] at hi
  have hDF : DF W D := hK
  obtain ⟨B0, ⟨vv, B1, hSl⟩, _, _, _, hb⟩ := hi
  clear hK hS
  go_wp2_with (first | (refine zlo rfl 33 (.tmp 6) rfl _ rfl 33 vv B1 _ Try.underlying33 rfl ?_))
  refine ⟨by simp, .inl ⟨_, _, rfl, run_takeDeferred (show W.heap[D]? = some (.deferred (some [])) from hDF), ?_⟩⟩
  have hg := grownBy_putObj' W D (.deferred none)
  have hs := (hSl.grownN hg (fun r e => by cases e; exact ⟨_, hDF, rfl⟩)).base lw
  rw [← irM_all, ← HQ.out] at hs
  exact ⟨_, results_tmp2 rfl _ _ _, vv, rfl, hs, hb.grown hg hb.size (fun k e => by cases e; omega)⟩
 case stop =>
  rintro D c ys W hD hS hi hK
  exact absurd hi (by simp)
set_option maxRecDepth 100000 in
set_option maxHeartbeats 6400000 in
theorem impl_IrreduciblesOf_any (p n : Int) (w : World) (hn1 : -9223372036854775808 ≤ n) (hn2 : n ≤ 9223372036854775807) :
 Calls Try.prog 41 #[.int .i64 p, .int .i64 n] w (IlF p n w) := by
 cases hp : okP p with
 | false =>
  have HP := Lib.hid hp
  have HV := Lib.hid (ilV_1 (n := n) hp)
  clear hp
  go_enter Try.func41, Try.ntmps41
  go_upto_region 1 with (fail)
  obtain ⟨W1, hwo⟩ : ∃ v : World, v = (w.alloc (.cells #[.int .i64 p] 2)) := ⟨_, rfl⟩
  have B0 : One W1 w.heap.size 2 (.int .i64 p) := by subst hwo; exact One.new w 2 _
  have hb : Below w.heap.size w W1 := by subst hwo; exact (Below.refl _ _).alloc (Nat.le_refl _) _
  rw [← hwo]
  clear hwo
  have cc := B0.cell
  go_wp2_with (first | (go_at_call 101; refine (isPrime_any _ _).mono ?_; rintro e wS ⟨rfl, rfl⟩; rw [HP.out]))
  go_ret2
  exact ⟨_, by rw [HV.out]; rfl, by rw [HV.out]; exact (by rw [plR_nil]; exact SlL.nil _ _ hb.size), hb⟩
 | true =>
  by_cases h20 : 1 ≤ n ∧ n ≤ 20
  · obtain ⟨n, rfl⟩ : ∃ j : Nat, n = (j : Int) := ⟨n.toNat, by omega⟩
    obtain ⟨p, rfl, p2, p7⟩ := okP_nat hp
    have hpr := prime_four hp
    by_cases hq : p ^ n ≤ 343
    · have hn8 : n ≤ 8 := by
       by_cases h : n ≤ 8
       · exact h
       · have h1 : 2 ^ 9 ≤ p ^ 9 := Nat.pow_le_pow_left p2 9
         have h2 : p ^ 9 ≤ p ^ n := Nat.pow_le_pow_right (by omega) (by omega)
         omega
      have HV := Lib.hid (ilV_0 hp (by omega) hn8 hq)
      refine (irrs_core p n w hpr hp (by omega) hn8 hq).mono ?_
      rintro e w' ⟨v, rfl, hS, hB⟩
      exact ⟨v, by rw [HV.out], by rw [HV.out]; exact hS, hB⟩
    · have HP := Lib.hid hp
      have HV := Lib.hid (ilV_3 (n := n) hp hq)
      have HNM := Lib.hid (fun W => norm_any p n W p2 p7 (by omega))
      obtain ⟨Q, hQ⟩ : ∃ Q, Q = p ^ n := ⟨_, rfl⟩
      have hQb : (Q : Int) ≤ 79792266297612001 := by rw [hQ]; exact Int.ofNat_le.2 (pow_big (by omega) p7 (by omega)).2
      rw [← hQ] at HNM hq
      have hqi : 343 < (Q : Int) := by omega
      clear hp hQ
      go_enter Try.func41, Try.ntmps41
      go_upto_region 1 with (fail)
      obtain ⟨W1, hwo⟩ : ∃ v : World, v = (w.alloc (.cells #[.int .i64 (p : Int)] 2)) := ⟨_, rfl⟩
      have B0 : One W1 w.heap.size 2 (.int .i64 (p : Int)) := by subst hwo; exact One.new w 2 _
      have hb : Below w.heap.size w W1 := by subst hwo; exact (Below.refl _ _).alloc (Nat.le_refl _) _
      rw [← hwo]
      clear hwo
      have cc := B0.cell
      go_wp2_with (first | (go_at_call 101; refine (isPrime_any _ _).mono ?_; rintro e wS ⟨rfl, rfl⟩; rw [HP.out]) | (go_at_call 108; refine (HNM.out _).mono ?_; rintro e wS ⟨rfl, rfl⟩))
      go_ret2
      exact ⟨_, by rw [HV.out]; rfl, by rw [HV.out]; exact (by rw [plR_nil]; exact SlL.nil _ _ hb.size), hb⟩
  · have HP := Lib.hid hp
    have HV := Lib.hid (ilV_2 (n := n) hp (by omega))
    by_cases h1 : n < 1
    · clear hp h20
      go_enter Try.func41, Try.ntmps41
      go_upto_region 1 with (fail)
      obtain ⟨W1, hwo⟩ : ∃ v : World, v = (w.alloc (.cells #[.int .i64 p] 2)) := ⟨_, rfl⟩
      have B0 : One W1 w.heap.size 2 (.int .i64 p) := by subst hwo; exact One.new w 2 _
      have hb : Below w.heap.size w W1 := by subst hwo; exact (Below.refl _ _).alloc (Nat.le_refl _) _
      rw [← hwo]
      clear hwo
      have cc := B0.cell
      go_wp2_with (first | (go_at_call 101; refine (isPrime_any _ _).mono ?_; rintro e wS ⟨rfl, rfl⟩; rw [HP.out]))
      go_ret2
      exact ⟨_, by rw [HV.out]; rfl, by rw [HV.out]; exact (by rw [plR_nil]; exact SlL.nil _ _ hb.size), hb⟩
    · have h2 : 20 < n := by omega
      clear hp h20
      go_enter Try.func41, Try.ntmps41
      go_upto_region 1 with (fail)
      obtain ⟨W1, hwo⟩ : ∃ v : World, v = (w.alloc (.cells #[.int .i64 p] 2)) := ⟨_, rfl⟩
      have B0 : One W1 w.heap.size 2 (.int .i64 p) := by subst hwo; exact One.new w 2 _
      have hb : Below w.heap.size w W1 := by subst hwo; exact (Below.refl _ _).alloc (Nat.le_refl _) _
      rw [← hwo]
      clear hwo
      have cc := B0.cell
      go_wp2_with (first | (go_at_call 101; refine (isPrime_any _ _).mono ?_; rintro e wS ⟨rfl, rfl⟩; rw [HP.out]))
      go_ret2
      exact ⟨_, by rw [HV.out]; rfl, by rw [HV.out]; exact (by rw [plR_nil]; exact SlL.nil _ _ hb.size), hb⟩
end Go.Proofs.Ytoncepgcfifgbaa
end
section
namespace Go.Proofs.Ytoncepgcfifgbaa
open Go.RowKit
set_option linter.unusedVariables false
set_option linter.unusedSimpArgs false
set_option maxRecDepth 100000 in
set_option maxHeartbeats 3200000 in
theorem FnExactIrreduciblesOf_walk (p n : Int) (wp : (Lit.int .i64 p).wf = true) (wn : (Lit.int .i64 n).wf = true) (w : World) :
 Calls Try.prog 8 #[.int .i64 p, .int .i64 n] w fun e w' => e = .returned (.bool true) ∧ Below w.heap.size w w' := by
 have bdp := bounds_i64 wp
 have bdn := bounds_i64 wn
 have hR := (ilV_len p n)
 obtain ⟨K, hK⟩ : ∃ K, K = 1 + 64 * ((ilV p n).1).length := ⟨_, rfl⟩
 have hK1 : (K : Int) ≤ 1000000 := by omega
 have hK2 : ((K : Int) != (K : Int)) = false := by simp
 have hK3 : ¬ (K : Int) < 0 := by omega
 have hne : (((ilV p n).2) != ((ilV p n).2)) = false := by simp
 have HK := Lib.hid hK
 clear hK
 have HS := Lib.hid (fun W => spec_IrreduciblesOf_any p n W bdn.1 bdn.2)
 have HI := Lib.hid (fun W => impl_IrreduciblesOf_any p n W bdn.1 bdn.2)
 go_enter Try.func8, Try.ntmps8
 have hb : Below w.heap.size w w := Below.refl _ _
 go_upto_region 2 with (first | (go_at_call 40; refine (HS.out _).mono ?_; rintro e W2 ⟨v1, rfl, S1, h2⟩; have hzS1 := hb.size; replace hb := hb.trans (h2.mono hb.size)))
 obtain ⟨a1, cap1, rfl⟩ : ∃ a cap, v1 = .slice a ((ilV p n).1).length cap := by
  rcases S1.shape with ⟨h1, h2⟩ | ⟨g, cap, h1⟩
  · have h3 := congrArg List.length h2
    rw [plR_len] at h3
    exact ⟨_, _, by rw [h1, show ((ilV p n).1).length = 0 from h3]⟩
  · exact ⟨_, _, by rw [h1, plR_len]⟩
 have T1 := S1.top
 obtain ⟨top1, ht1⟩ : ∃ b, b = W2.heap.size := ⟨_, rfl⟩
 rw [← ht1] at T1
 have hsz := Nat.le_of_eq ht1
 clear ht1 S1
 go_upto_region 3 with (first | (go_at_call 41; refine (HI.out _).mono ?_; rintro e W4 ⟨v2, rfl, S2, h2⟩; have hzS2 := hb.size; replace T1 := T1.zw h2; replace hb := hb.trans (h2.mono hb.size)))
 obtain ⟨a2, cap2, rfl⟩ : ∃ a cap, v2 = .slice a ((ilV p n).1).length cap := by
  rcases S2.shape with ⟨h1, h2⟩ | ⟨g, cap, h1⟩
  · have h3 := congrArg List.length h2
    rw [plR_len] at h3
    exact ⟨_, _, by rw [h1, show ((ilV p n).1).length = 0 from h3]⟩
  · exact ⟨_, _, by rw [h1, plR_len]⟩
 have hap : ∀ r, (Value.slice a1 ((ilV p n).1).length cap1).ownBlock = some r → ∀ r2, (Value.slice a2 ((ilV p n).1).length cap2).ownBlock = some r2 → r ≠ r2 := fun r hr r2 hr2 => by
  have e1 := T1.2 r hr
  have e2 := S2.own r2 hr2
  omega
 obtain ⟨base2, hb2⟩ : ∃ b, b = W2.heap.size := ⟨_, rfl⟩
 rw [← hb2] at S2 hzS2
 have S1 := T1.1
 have HAP := Lib.hid hap
 clear hb2 T1 hap hsz
 go_upto_region 6 with (first | (go_at_call 35; refine (eqPolyS_same ((ilV p n).1) a2 a1 cap2 cap1 base2 _ _ S2 S1 hR).mono ?_; rintro e W5 ⟨rfl, h2⟩; replace S1 := S1.zw h2; replace S2 := S2.zw h2; replace hb := hb.trans (h2.mono hb.size)))
 go_upto_region 8 with (first | (go_at_call 36; refine (markPolyS_any ((ilV p n).1).length a2 cap2 base2 _ (S2.marksP (plR_len ..)) hR).mono ?_; rintro e W6 ⟨rfl, M2, hG⟩; rw [← HK.out]))
 have hown := S2.own
 replace hb := hb.grown hG hb.size (fun k e => Nat.le_trans hzS2 (hown k e))
 replace S1 := slL_apart S1 hG (by
  cases hv : (Value.slice a1 ((ilV p n).1).length cap1).ownBlock with
  | none => exact .inl rfl
  | some r =>
   refine .inr fun h => ?_
   exact HAP.out r hv r h.symm rfl)
 clear S2 hG hown
 go_upto_region 13 with (first | (go_at_call 37; refine (heldPolyS_any ((ilV p n).1).length a2 cap2 base2 _ M2 hR).mono ?_; rintro e wS ⟨rfl, rfl⟩; rw [← HK.out]))
 go_upto_region 14 with (first | (go_at_call 41; refine (HI.out _).mono ?_; rintro e W8 ⟨v3, rfl, S3, h2⟩; have hzS3 := hb.size; replace S1 := S1.zw h2; replace M2 := M2.below h2; replace hb := hb.trans (h2.mono hb.size)))
 obtain ⟨a3, cap3, rfl⟩ : ∃ a cap, v3 = .slice a ((ilV p n).1).length cap := by
  rcases S3.shape with ⟨h1, h2⟩ | ⟨g, cap, h1⟩
  · have h3 := congrArg List.length h2
    rw [plR_len] at h3
    exact ⟨_, _, by rw [h1, show ((ilV p n).1).length = 0 from h3]⟩
  · exact ⟨_, _, by rw [h1, plR_len]⟩
 go_upto_region 17 with (first | (go_at_call 35; refine (eqPolyS_same ((ilV p n).1) a3 a1 cap3 cap1 _ _ _ S3 S1 hR).mono ?_; rintro e W9 ⟨rfl, h2⟩; replace M2 := M2.below h2; replace hb := hb.trans (h2.mono hb.size)))
 clear S3 S1
 go_wp2_with (first | (go_at_call 37; refine (heldPolyS_any ((ilV p n).1).length a2 cap2 base2 _ M2 hR).mono ?_; rintro e wS ⟨rfl, rfl⟩; rw [← HK.out]))
 go_ret
 exact ⟨rfl, hb⟩
end Go.Proofs.Ytoncepgcfifgbaa
end
