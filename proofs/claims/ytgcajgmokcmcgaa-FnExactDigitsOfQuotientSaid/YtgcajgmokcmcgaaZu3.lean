/-
  What the rows of this claim rest on: arrays of bytes, walks of the functions, plain mathematics.
-/
import Derived.Test.YtgcajgmokcmcgaaZu2
import Derived.OpenShut
import Derived.ProofKit
import Derived.Test.YtgcajgmokcmcgaaRows
import Derived.JoinedOf
section
namespace Go.Proofs.Ytgcajgmokcmcgaa
open Go Go.RowKit
set_option linter.unusedVariables false
set_option linter.unusedSimpArgs false
/-- are the number and the degrees in their ranges -/
def dqB (a b : Nat → Nat) (n : Int) : Bool := decide (0 ≤ n ∧ n ≤ 40 ∧ deg a ≤ 62 ∧ deg b ≤ 62)
/-- both answers of DigitsOfQuotient -/
def dqV (p : Int) (a b : Nat → Nat) (n : Int) : List Int × Int := if qcC p a b (dqB a b n) = 0 then (dqL p.toNat a b n.toNat, 0) else ([], qcC p a b (dqB a b n))
theorem dqV_c {p n : Int} {a b : Nat → Nat} {c : Int} (h : qcC p a b (dqB a b n) = c) (h0 : c ≠ 0) : dqV p a b n = ([], c) := by unfold dqV; rw [h, if_neg h0]
theorem dqV_0 {p n : Nat} {a b : Nat → Nat} (h : qcC (p : Int) a b (dqB a b (n : Int)) = 0) : dqV (p : Int) a b (n : Int) = (dqL p a b n, 0) := by unfold dqV; rw [if_pos h, Int.toNat_natCast, Int.toNat_natCast]
theorem dqV_len (p : Int) (a b : Nat → Nat) (n : Int) : (dqV p a b n).1.length ≤ 1000 := by
 unfold dqV
 by_cases h : qcC p a b (dqB a b n) = 0
 · rw [if_pos h]
   show (dqL _ _ _ _).length ≤ 1000
   rw [dqL_len]
   rcases qcC_split p a b (dqB a b n) with ⟨c, hc, h0⟩ | ⟨_, hr, _⟩
   · omega
   · have := (of_decide_eq_true hr); omega
 · rw [if_neg h]; exact Nat.zero_le _
attribute [local irreducible] deg icl dqN dqR dqD dqI resP quoP prd dqL dqV qcC dqB
set_option maxRecDepth 100000 in
set_option maxHeartbeats 3200000 in
theorem impl_DigitsOfQuotient_any (p : Int) (a b : Nat → Nat) (n : Int) (ha : byte a) (hbb : byte b) (w : World) :
 Calls Try.prog 20 #[.int .i64 p, .agg (zb 64 a), .agg (zb 64 b), .int .i64 n] w (SgF (dqV p a b n).1 (dqV p a b n).2 w) := by
 have HCQ := Lib.hid (fun r W => checkQuotient_any p a b r ha hbb W)
 have HDA := Lib.hid (fun W => degree_any a W)
 have HDB := Lib.hid (fun W => degree_any b W)
 obtain ⟨da, hda⟩ : ∃ x, x = deg a := ⟨_, rfl⟩
 obtain ⟨db, hdb⟩ : ∃ x, x = deg b := ⟨_, rfl⟩
 rw [← hda] at HDA
 rw [← hdb] at HDB
 have HB := Lib.hid (show dqB a b n = decide (0 ≤ n ∧ n ≤ 40 ∧ da ≤ 62 ∧ db ≤ 62) by unfold dqB; rw [hda, hdb])
 clear hda hdb
 obtain ⟨r, hr⟩ : ∃ r, r = dqB a b n := ⟨_, rfl⟩
 rw [← hr] at HB
 have HR := Lib.hid hr
 clear hr
 go_enter Try.func20, Try.ntmps20
 go_upto_region 1 with (fail)
 obtain ⟨W1, hwo⟩ : ∃ v : World, v = ((w.alloc (.cells (zb 64 (a)) 26)).alloc (.cells (zb 64 (b)) 26)) := ⟨_, rfl⟩
 have B0 : Blk W1 (w.heap.size) 64 26 (a) := by subst hwo; have := ((Blk.new w 64 26 (a)).alloc (.cells (zb 64 (b)) 26)); simpa using this
 have B1 : Blk W1 (w.heap.size + 1) 64 26 (b) := by subst hwo; have := (Blk.new (w.alloc (.cells (zb 64 (a)) 26)) 64 26 (b)); simpa using this
 have hb : Below w.heap.size w W1 := by subst hwo; exact (((Below.refl _ _).alloc (Nat.le_refl _) _).alloc (by simp) _)
 rw [← hwo]
 clear hwo
 by_cases h0 : 0 ≤ n
 · by_cases h4 : n ≤ 40
   · rcases Int.lt_trichotomy da db with hle | hle | hle
     · by_cases hm : db ≤ 62
       · have hrv : r = true := by rw [HB.out, decide_eq_true_iff]; omega
         subst hrv
         have lt_B0 : (w.heap.size) < W1.heap.size := B0.lt
         have lt_B1 : (w.heap.size + 1) < W1.heap.size := B1.lt
         have hbase : w.heap.size ≤ W1.heap.size := hb.size
         refine wp_region_stepsG Try.mixed (by kernel_rfl) (by kernel_rfl) (fun v => by (simp only [frL, Act.put, pA, pB, pC, Nat.reduceAdd, Nat.zero_add]; exact rfl))
          (fun L v W2 => Below w.heap.size w W2 ∧ W1.heap.size ≤ W2.heap.size ∧ Blk W2 (w.heap.size) 64 26 (a) ∧ Blk W2 (w.heap.size + 1) 64 26 (b) ∧ VF L v [some (.int .i64 n), some (.bool true), some (.bool true), some (.int .i64 n), some (.bool true), some (.bool true), some (.bool true), some (.agg (zb 64 (a))), some (.int .i64 da), some (.agg (zb 64 (b))), some (.int .i64 db), some (.int .i64 db), some (.bool true), some (.bool true), some (.bool true)]) ?_ ?_ ?_
         · intro v hv0
           exact ⟨hb.drew, Nat.le_refl _, B0.drew, B1.drew, VF.start⟩
         · refine (.cons ?_ (.cons ?_ (.cons ?_ (.cons ?_ (.cons ?_ (.cons ?_ (.cons ?_ (.cons ?_ (.cons ?_ (.cons ?_ (.cons ?_ (.cons ?_ (.cons ?_ (.cons ?_ (.cons ?_ (.nil _))))))))))))))))
           · intro L v W2 hd hn ⟨hB, hz, s0, s1, V⟩ K hK
             rw [if_pos (by simp [Region.wanted])]
             go_wp2_with fail
             exact hK _ (.int .i64 n) _ (by simp only [Act.put, pA, pB, pC ]) ⟨hB, hz, s0, s1, V.step 0 rfl⟩
           · intro L v W2 hd hn ⟨hB, hz, s0, s1, V⟩ K hK
             have e0 := V.at (zdq hd 0 rfl) rfl
             rw [if_pos (by simp [Region.wanted])]
             go_wp2_with fail
             exact hK _ (.bool true) _ (by simp only [Act.put, pA, pB, pC, e0]) ⟨hB, hz, s0, s1, V.step 1 rfl⟩
           · intro L v W2 hd hn ⟨hB, hz, s0, s1, V⟩ K hK
             have e1 := V.at (zdq hd 1 rfl) rfl
             rw [if_pos (by simp [Region.wanted])]
             go_wp2_with fail
             exact hK _ (.bool true) _ (by simp only [Act.put, pA, pB, pC, e1]) ⟨hB, hz, s0, s1, V.step 2 rfl⟩
           · intro L v W2 hd hn ⟨hB, hz, s0, s1, V⟩ K hK
             have e2 := V.at (zdq hd 2 rfl) rfl
             rw [if_pos (by simp [Region.wanted, yielded, e2])]
             go_wp2_with fail
             exact hK _ (.int .i64 n) _ (by simp only [Act.put, pA, pB, pC, e2]) ⟨hB, hz, s0, s1, V.step 3 rfl⟩
           · intro L v W2 hd hn ⟨hB, hz, s0, s1, V⟩ K hK
             have e3 := V.at (zdq hd 3 rfl) rfl
             have e2 := V.at (zdq hd 2 rfl) rfl
             rw [if_pos (by simp [Region.wanted, yielded, e2])]
             go_wp2_with fail
             exact hK _ (.bool true) _ (by simp only [Act.put, pA, pB, pC, e3, e2]) ⟨hB, hz, s0, s1, V.step 4 rfl⟩
           · intro L v W2 hd hn ⟨hB, hz, s0, s1, V⟩ K hK
             have e2 := V.at (zdq hd 2 rfl) rfl
             have e4 := V.at (zdq hd 4 rfl) rfl
             rw [if_pos (by simp [Region.wanted])]
             go_wp2_with fail
             exact hK _ (.bool true) _ (by simp only [Act.put, pA, pB, pC, e2, e4]) ⟨hB, hz, s0, s1, V.step 5 rfl⟩
           · intro L v W2 hd hn ⟨hB, hz, s0, s1, V⟩ K hK
             have e5 := V.at (zdq hd 5 rfl) rfl
             rw [if_pos (by simp [Region.wanted])]
             go_wp2_with fail
             exact hK _ (.bool true) _ (by simp only [Act.put, pA, pB, pC, e5]) ⟨hB, hz, s0, s1, V.step 6 rfl⟩
           · intro L v W2 hd hn ⟨hB, hz, s0, s1, V⟩ K hK
             have e6 := V.at (zdq hd 6 rfl) rfl
             rw [if_pos (by simp [Region.wanted, yielded, e6])]
             refine zlc s0 Try.underlying26 Try.size26 ?_
             exact hK _ _ _ rfl ⟨hB, hz, s0, s1, V.step 7 rfl⟩
           · intro L v W2 hd hn ⟨hB, hz, s0, s1, V⟩ K hK
             have e7 := V.at (zdq hd 7 rfl) rfl
             have e6 := V.at (zdq hd 6 rfl) rfl
             rw [if_pos (by simp [Region.wanted, yielded, e6])]
             go_wp2_with (go_at_call 69; refine (HDA.out _).mono ?_; rintro e wy ⟨rfl, hy⟩)
             exact hK _ (.int .i64 da) _ (by simp only [Act.put, pA, pB, pC, e7, e6]) ⟨hB.trans (hy.mono hB.size), (Nat.le_trans hz hy.size), s0.zw hy, s1.zw hy, V.step 8 rfl⟩
           · intro L v W2 hd hn ⟨hB, hz, s0, s1, V⟩ K hK
             have e6 := V.at (zdq hd 6 rfl) rfl
             rw [if_pos (by simp [Region.wanted, yielded, e6])]
             refine zlc s1 Try.underlying26 Try.size26 ?_
             exact hK _ _ _ rfl ⟨hB, hz, s0, s1, V.step 9 rfl⟩
           · intro L v W2 hd hn ⟨hB, hz, s0, s1, V⟩ K hK
             have e9 := V.at (zdq hd 9 rfl) rfl
             have e6 := V.at (zdq hd 6 rfl) rfl
             rw [if_pos (by simp [Region.wanted, yielded, e6])]
             go_wp2_with (go_at_call 69; refine (HDB.out _).mono ?_; rintro e wy ⟨rfl, hy⟩)
             exact hK _ (.int .i64 db) _ (by simp only [Act.put, pA, pB, pC, e9, e6]) ⟨hB.trans (hy.mono hB.size), (Nat.le_trans hz hy.size), s0.zw hy, s1.zw hy, V.step 10 rfl⟩
           · intro L v W2 hd hn ⟨hB, hz, s0, s1, V⟩ K hK
             have e8 := V.at (zdq hd 8 rfl) rfl
             have e10 := V.at (zdq hd 10 rfl) rfl
             have e6 := V.at (zdq hd 6 rfl) rfl
             rw [if_pos (by simp [Region.wanted, yielded, e6])]
             go_wp2_with fail
             exact hK _ (.int .i64 db) _ (by simp only [Act.put, pA, pB, pC, e8, e10, e6]) ⟨hB, hz, s0, s1, V.step 11 rfl⟩
           · intro L v W2 hd hn ⟨hB, hz, s0, s1, V⟩ K hK
             have e11 := V.at (zdq hd 11 rfl) rfl
             have e6 := V.at (zdq hd 6 rfl) rfl
             rw [if_pos (by simp [Region.wanted, yielded, e6])]
             go_wp2_with fail
             exact hK _ (.bool true) _ (by simp only [Act.put, pA, pB, pC, e11, e6]) ⟨hB, hz, s0, s1, V.step 12 rfl⟩
           · intro L v W2 hd hn ⟨hB, hz, s0, s1, V⟩ K hK
             have e6 := V.at (zdq hd 6 rfl) rfl
             have e12 := V.at (zdq hd 12 rfl) rfl
             rw [if_pos (by simp [Region.wanted])]
             go_wp2_with fail
             exact hK _ (.bool true) _ (by simp only [Act.put, pA, pB, pC, e6, e12]) ⟨hB, hz, s0, s1, V.step 13 rfl⟩
           · intro L v W2 hd hn ⟨hB, hz, s0, s1, V⟩ K hK
             have e13 := V.at (zdq hd 13 rfl) rfl
             rw [if_pos (by simp [Region.wanted])]
             go_wp2_with fail
             exact hK _ (.bool true) _ (by simp only [Act.put, pA, pB, pC, e13]) ⟨hB, hz, s0, s1, V.step 14 rfl⟩
         · intro L v W2 hL ⟨hB, hz, s0, s1, V⟩
           have e0 := V.at (hL 0 (by decide)) rfl
           have e1 := V.at (hL 1 (by decide)) rfl
           have e2 := V.at (hL 2 (by decide)) rfl
           have e3 := V.at (hL 3 (by decide)) rfl
           have e4 := V.at (hL 4 (by decide)) rfl
           have e5 := V.at (hL 5 (by decide)) rfl
           have e6 := V.at (hL 6 (by decide)) rfl
           have e7 := V.at (hL 7 (by decide)) rfl
           have e8 := V.at (hL 8 (by decide)) rfl
           have e9 := V.at (hL 9 (by decide)) rfl
           have e10 := V.at (hL 10 (by decide)) rfl
           have e11 := V.at (hL 11 (by decide)) rfl
           have e12 := V.at (hL 12 (by decide)) rfl
           have e13 := V.at (hL 13 (by decide)) rfl
           have e14 := V.at (hL 14 (by decide)) rfl
           clear hL V
           simp only [Exit.then, e0, e1, e2, e3, e4, e5, e6, e7, e8, e9, e10, e11, e12, e13, e14]
           clear e0 e1 e2 e3 e4 e5 e6 e7 e8 e9 e10 e11 e12 e13 e14
           replace B0 := s0
           clear s0
           replace B1 := s1
           clear s1
           replace hb := hB
           clear hB
           clear hbase hz lt_B0 lt_B1
           rcases qcC_split p a b true with ⟨c, hc, hc0⟩ | ⟨hc, hrr, m, rfl, hpr, la, lb, hd⟩
           · have HV := Lib.hid (dqV_c (p := p) (a := a) (b := b) (n := n) (c := c) (by rw [← HR.out]; exact hc) hc0)
             have HC := Lib.hid (show ∀ W, Calls Try.prog _ _ W _ from fun W => hc ▸ HCQ.out true W)
             have hcb : (c != 0) = true := by simp [hc0]
             clear hc hc0
             go_upto_region 4 with (first | (refine zla (.tmp 5) B0 Try.underlying26 Try.size26 ?_) | (refine zla (.tmp 6) B1 Try.underlying26 Try.size26 ?_) | (go_at_call 70; refine (HC.out _).mono ?_; rintro e W3 ⟨rfl, hW3⟩; replace B0 := B0.zw hW3; replace B1 := B1.zw hW3; replace hb := (hb).trans (hW3.mono (hb).size)))
             go_wp2_with fail
             go_ret2
             exact ⟨_, w.heap.size, w.heap.size, by rw [HV.out]; rfl, Nat.le_refl _, by rw [HV.out]; exact Seg.nil _ none 0 (Nat.le_refl _) hb.size, hb⟩
           · obtain ⟨n, rfl⟩ : ∃ q : Nat, n = (q : Int) := ⟨n.toNat, by omega⟩
             have HV := Lib.hid (dqV_0 (p := m) (a := a) (b := b) (n := n) (by rw [← HR.out]; exact hc))
             have HC := Lib.hid (show ∀ W, Calls Try.prog _ _ W _ from fun W => hc ▸ HCQ.out true W)
             have HDQ := Lib.hid (fun W => digitsOfQuotient_any m n a b W hpr la lb hd (by omega))
             clear hc la lb hd hrr
             go_upto_region 5 with (first | (refine zla (.tmp 5) B0 Try.underlying26 Try.size26 ?_) | (refine zla (.tmp 6) B1 Try.underlying26 Try.size26 ?_) | (go_at_call 70; refine (HC.out _).mono ?_; rintro e W3 ⟨rfl, hW3⟩; replace B0 := B0.zw hW3; replace B1 := B1.zw hW3; replace hb := (hb).trans (hW3.mono (hb).size)))
             go_wp2_with (first | (refine zla (.tmp 5) B0 Try.underlying26 Try.size26 ?_) | (refine zla (.tmp 6) B1 Try.underlying26 Try.size26 ?_))
             refine (HDQ.out _).mono ?_
             rintro e W9 ⟨v9, lo, hi, rfl, hl9, hS, h9⟩
             have hWs := hb.size
             replace hb := hb.trans (h9.mono hb.size)
             go_wp2_with fail
             go_ret2
             exact ⟨v9, lo, hi, by rw [HV.out]; rfl, by omega, by rw [HV.out]; exact hS, hb⟩
       · have hrv : r = false := by rw [HB.out, decide_eq_false_iff_not]; omega
         subst hrv
         have lt_B0 : (w.heap.size) < W1.heap.size := B0.lt
         have lt_B1 : (w.heap.size + 1) < W1.heap.size := B1.lt
         have hbase : w.heap.size ≤ W1.heap.size := hb.size
         refine wp_region_stepsG Try.mixed (by kernel_rfl) (by kernel_rfl) (fun v => by (simp only [frL, Act.put, pA, pB, pC, Nat.reduceAdd, Nat.zero_add]; exact rfl))
          (fun L v W2 => Below w.heap.size w W2 ∧ W1.heap.size ≤ W2.heap.size ∧ Blk W2 (w.heap.size) 64 26 (a) ∧ Blk W2 (w.heap.size + 1) 64 26 (b) ∧ VF L v [some (.int .i64 n), some (.bool true), some (.bool true), some (.int .i64 n), some (.bool true), some (.bool true), some (.bool true), some (.agg (zb 64 (a))), some (.int .i64 da), some (.agg (zb 64 (b))), some (.int .i64 db), some (.int .i64 db), some (.bool false), some (.bool false), some (.bool false)]) ?_ ?_ ?_
         · intro v hv0
           exact ⟨hb.drew, Nat.le_refl _, B0.drew, B1.drew, VF.start⟩
         · refine (.cons ?_ (.cons ?_ (.cons ?_ (.cons ?_ (.cons ?_ (.cons ?_ (.cons ?_ (.cons ?_ (.cons ?_ (.cons ?_ (.cons ?_ (.cons ?_ (.cons ?_ (.cons ?_ (.cons ?_ (.nil _))))))))))))))))
           · intro L v W2 hd hn ⟨hB, hz, s0, s1, V⟩ K hK
             rw [if_pos (by simp [Region.wanted])]
             go_wp2_with fail
             exact hK _ (.int .i64 n) _ (by simp only [Act.put, pA, pB, pC ]) ⟨hB, hz, s0, s1, V.step 0 rfl⟩
           · intro L v W2 hd hn ⟨hB, hz, s0, s1, V⟩ K hK
             have e0 := V.at (zdq hd 0 rfl) rfl
             rw [if_pos (by simp [Region.wanted])]
             go_wp2_with fail
             exact hK _ (.bool true) _ (by simp only [Act.put, pA, pB, pC, e0]) ⟨hB, hz, s0, s1, V.step 1 rfl⟩
           · intro L v W2 hd hn ⟨hB, hz, s0, s1, V⟩ K hK
             have e1 := V.at (zdq hd 1 rfl) rfl
             rw [if_pos (by simp [Region.wanted])]
             go_wp2_with fail
             exact hK _ (.bool true) _ (by simp only [Act.put, pA, pB, pC, e1]) ⟨hB, hz, s0, s1, V.step 2 rfl⟩
           · intro L v W2 hd hn ⟨hB, hz, s0, s1, V⟩ K hK
             have e2 := V.at (zdq hd 2 rfl) rfl
             rw [if_pos (by simp [Region.wanted, yielded, e2])]
             go_wp2_with fail
             exact hK _ (.int .i64 n) _ (by simp only [Act.put, pA, pB, pC, e2]) ⟨hB, hz, s0, s1, V.step 3 rfl⟩
           · intro L v W2 hd hn ⟨hB, hz, s0, s1, V⟩ K hK
             have e3 := V.at (zdq hd 3 rfl) rfl
             have e2 := V.at (zdq hd 2 rfl) rfl
             rw [if_pos (by simp [Region.wanted, yielded, e2])]
             go_wp2_with fail
             exact hK _ (.bool true) _ (by simp only [Act.put, pA, pB, pC, e3, e2]) ⟨hB, hz, s0, s1, V.step 4 rfl⟩
           · intro L v W2 hd hn ⟨hB, hz, s0, s1, V⟩ K hK
             have e2 := V.at (zdq hd 2 rfl) rfl
             have e4 := V.at (zdq hd 4 rfl) rfl
             rw [if_pos (by simp [Region.wanted])]
             go_wp2_with fail
             exact hK _ (.bool true) _ (by simp only [Act.put, pA, pB, pC, e2, e4]) ⟨hB, hz, s0, s1, V.step 5 rfl⟩
           · intro L v W2 hd hn ⟨hB, hz, s0, s1, V⟩ K hK
             have e5 := V.at (zdq hd 5 rfl) rfl
             rw [if_pos (by simp [Region.wanted])]
             go_wp2_with fail
             exact hK _ (.bool true) _ (by simp only [Act.put, pA, pB, pC, e5]) ⟨hB, hz, s0, s1, V.step 6 rfl⟩
           · intro L v W2 hd hn ⟨hB, hz, s0, s1, V⟩ K hK
             have e6 := V.at (zdq hd 6 rfl) rfl
             rw [if_pos (by simp [Region.wanted, yielded, e6])]
             refine zlc s0 Try.underlying26 Try.size26 ?_
             exact hK _ _ _ rfl ⟨hB, hz, s0, s1, V.step 7 rfl⟩
           · intro L v W2 hd hn ⟨hB, hz, s0, s1, V⟩ K hK
             have e7 := V.at (zdq hd 7 rfl) rfl
             have e6 := V.at (zdq hd 6 rfl) rfl
             rw [if_pos (by simp [Region.wanted, yielded, e6])]
             go_wp2_with (go_at_call 69; refine (HDA.out _).mono ?_; rintro e wy ⟨rfl, hy⟩)
             exact hK _ (.int .i64 da) _ (by simp only [Act.put, pA, pB, pC, e7, e6]) ⟨hB.trans (hy.mono hB.size), (Nat.le_trans hz hy.size), s0.zw hy, s1.zw hy, V.step 8 rfl⟩
           · intro L v W2 hd hn ⟨hB, hz, s0, s1, V⟩ K hK
             have e6 := V.at (zdq hd 6 rfl) rfl
             rw [if_pos (by simp [Region.wanted, yielded, e6])]
             refine zlc s1 Try.underlying26 Try.size26 ?_
             exact hK _ _ _ rfl ⟨hB, hz, s0, s1, V.step 9 rfl⟩
           · intro L v W2 hd hn ⟨hB, hz, s0, s1, V⟩ K hK
             have e9 := V.at (zdq hd 9 rfl) rfl
             have e6 := V.at (zdq hd 6 rfl) rfl
             rw [if_pos (by simp [Region.wanted, yielded, e6])]
             go_wp2_with (go_at_call 69; refine (HDB.out _).mono ?_; rintro e wy ⟨rfl, hy⟩)
             exact hK _ (.int .i64 db) _ (by simp only [Act.put, pA, pB, pC, e9, e6]) ⟨hB.trans (hy.mono hB.size), (Nat.le_trans hz hy.size), s0.zw hy, s1.zw hy, V.step 10 rfl⟩
           · intro L v W2 hd hn ⟨hB, hz, s0, s1, V⟩ K hK
             have e8 := V.at (zdq hd 8 rfl) rfl
             have e10 := V.at (zdq hd 10 rfl) rfl
             have e6 := V.at (zdq hd 6 rfl) rfl
             rw [if_pos (by simp [Region.wanted, yielded, e6])]
             go_wp2_with fail
             exact hK _ (.int .i64 db) _ (by simp only [Act.put, pA, pB, pC, e8, e10, e6]) ⟨hB, hz, s0, s1, V.step 11 rfl⟩
           · intro L v W2 hd hn ⟨hB, hz, s0, s1, V⟩ K hK
             have e11 := V.at (zdq hd 11 rfl) rfl
             have e6 := V.at (zdq hd 6 rfl) rfl
             rw [if_pos (by simp [Region.wanted, yielded, e6])]
             go_wp2_with fail
             exact hK _ (.bool false) _ (by simp only [Act.put, pA, pB, pC, e11, e6]) ⟨hB, hz, s0, s1, V.step 12 rfl⟩
           · intro L v W2 hd hn ⟨hB, hz, s0, s1, V⟩ K hK
             have e6 := V.at (zdq hd 6 rfl) rfl
             have e12 := V.at (zdq hd 12 rfl) rfl
             rw [if_pos (by simp [Region.wanted])]
             go_wp2_with fail
             exact hK _ (.bool false) _ (by simp only [Act.put, pA, pB, pC, e6, e12]) ⟨hB, hz, s0, s1, V.step 13 rfl⟩
           · intro L v W2 hd hn ⟨hB, hz, s0, s1, V⟩ K hK
             have e13 := V.at (zdq hd 13 rfl) rfl
             rw [if_pos (by simp [Region.wanted])]
             go_wp2_with fail
             exact hK _ (.bool false) _ (by simp only [Act.put, pA, pB, pC, e13]) ⟨hB, hz, s0, s1, V.step 14 rfl⟩
         · intro L v W2 hL ⟨hB, hz, s0, s1, V⟩
           have e0 := V.at (hL 0 (by decide)) rfl
           have e1 := V.at (hL 1 (by decide)) rfl
           have e2 := V.at (hL 2 (by decide)) rfl
           have e3 := V.at (hL 3 (by decide)) rfl
           have e4 := V.at (hL 4 (by decide)) rfl
           have e5 := V.at (hL 5 (by decide)) rfl
           have e6 := V.at (hL 6 (by decide)) rfl
           have e7 := V.at (hL 7 (by decide)) rfl
           have e8 := V.at (hL 8 (by decide)) rfl
           have e9 := V.at (hL 9 (by decide)) rfl
           have e10 := V.at (hL 10 (by decide)) rfl
           have e11 := V.at (hL 11 (by decide)) rfl
           have e12 := V.at (hL 12 (by decide)) rfl
           have e13 := V.at (hL 13 (by decide)) rfl
           have e14 := V.at (hL 14 (by decide)) rfl
           clear hL V
           simp only [Exit.then, e0, e1, e2, e3, e4, e5, e6, e7, e8, e9, e10, e11, e12, e13, e14]
           clear e0 e1 e2 e3 e4 e5 e6 e7 e8 e9 e10 e11 e12 e13 e14
           replace B0 := s0
           clear s0
           replace B1 := s1
           clear s1
           replace hb := hB
           clear hB
           clear hbase hz lt_B0 lt_B1
           rcases qcC_split p a b false with ⟨c, hc, hc0⟩ | ⟨hc, hrr, m, rfl, hpr, la, lb, hd⟩
           · have HV := Lib.hid (dqV_c (p := p) (a := a) (b := b) (n := n) (c := c) (by rw [← HR.out]; exact hc) hc0)
             have HC := Lib.hid (show ∀ W, Calls Try.prog _ _ W _ from fun W => hc ▸ HCQ.out false W)
             have hcb : (c != 0) = true := by simp [hc0]
             clear hc hc0
             go_upto_region 4 with (first | (refine zla (.tmp 5) B0 Try.underlying26 Try.size26 ?_) | (refine zla (.tmp 6) B1 Try.underlying26 Try.size26 ?_) | (go_at_call 70; refine (HC.out _).mono ?_; rintro e W3 ⟨rfl, hW3⟩; replace B0 := B0.zw hW3; replace B1 := B1.zw hW3; replace hb := (hb).trans (hW3.mono (hb).size)))
             go_wp2_with fail
             go_ret2
             exact ⟨_, w.heap.size, w.heap.size, by rw [HV.out]; rfl, Nat.le_refl _, by rw [HV.out]; exact Seg.nil _ none 0 (Nat.le_refl _) hb.size, hb⟩
           · cases hrr
     · subst hle
       by_cases hm : da ≤ 62
       · have hrv : r = true := by rw [HB.out, decide_eq_true_iff]; omega
         subst hrv
         have lt_B0 : (w.heap.size) < W1.heap.size := B0.lt
         have lt_B1 : (w.heap.size + 1) < W1.heap.size := B1.lt
         have hbase : w.heap.size ≤ W1.heap.size := hb.size
         refine wp_region_stepsG Try.mixed (by kernel_rfl) (by kernel_rfl) (fun v => by (simp only [frL, Act.put, pA, pB, pC, Nat.reduceAdd, Nat.zero_add]; exact rfl))
          (fun L v W2 => Below w.heap.size w W2 ∧ W1.heap.size ≤ W2.heap.size ∧ Blk W2 (w.heap.size) 64 26 (a) ∧ Blk W2 (w.heap.size + 1) 64 26 (b) ∧ VF L v [some (.int .i64 n), some (.bool true), some (.bool true), some (.int .i64 n), some (.bool true), some (.bool true), some (.bool true), some (.agg (zb 64 (a))), some (.int .i64 da), some (.agg (zb 64 (b))), some (.int .i64 da), some (.int .i64 da), some (.bool true), some (.bool true), some (.bool true)]) ?_ ?_ ?_
         · intro v hv0
           exact ⟨hb.drew, Nat.le_refl _, B0.drew, B1.drew, VF.start⟩
         · refine (.cons ?_ (.cons ?_ (.cons ?_ (.cons ?_ (.cons ?_ (.cons ?_ (.cons ?_ (.cons ?_ (.cons ?_ (.cons ?_ (.cons ?_ (.cons ?_ (.cons ?_ (.cons ?_ (.cons ?_ (.nil _))))))))))))))))
           · intro L v W2 hd hn ⟨hB, hz, s0, s1, V⟩ K hK
             rw [if_pos (by simp [Region.wanted])]
             go_wp2_with fail
             exact hK _ (.int .i64 n) _ (by simp only [Act.put, pA, pB, pC ]) ⟨hB, hz, s0, s1, V.step 0 rfl⟩
           · intro L v W2 hd hn ⟨hB, hz, s0, s1, V⟩ K hK
             have e0 := V.at (zdq hd 0 rfl) rfl
             rw [if_pos (by simp [Region.wanted])]
             go_wp2_with fail
             exact hK _ (.bool true) _ (by simp only [Act.put, pA, pB, pC, e0]) ⟨hB, hz, s0, s1, V.step 1 rfl⟩
           · intro L v W2 hd hn ⟨hB, hz, s0, s1, V⟩ K hK
             have e1 := V.at (zdq hd 1 rfl) rfl
             rw [if_pos (by simp [Region.wanted])]
             go_wp2_with fail
             exact hK _ (.bool true) _ (by simp only [Act.put, pA, pB, pC, e1]) ⟨hB, hz, s0, s1, V.step 2 rfl⟩
           · intro L v W2 hd hn ⟨hB, hz, s0, s1, V⟩ K hK
             have e2 := V.at (zdq hd 2 rfl) rfl
             rw [if_pos (by simp [Region.wanted, yielded, e2])]
             go_wp2_with fail
             exact hK _ (.int .i64 n) _ (by simp only [Act.put, pA, pB, pC, e2]) ⟨hB, hz, s0, s1, V.step 3 rfl⟩
           · intro L v W2 hd hn ⟨hB, hz, s0, s1, V⟩ K hK
             have e3 := V.at (zdq hd 3 rfl) rfl
             have e2 := V.at (zdq hd 2 rfl) rfl
             rw [if_pos (by simp [Region.wanted, yielded, e2])]
             go_wp2_with fail
             exact hK _ (.bool true) _ (by simp only [Act.put, pA, pB, pC, e3, e2]) ⟨hB, hz, s0, s1, V.step 4 rfl⟩
           · intro L v W2 hd hn ⟨hB, hz, s0, s1, V⟩ K hK
             have e2 := V.at (zdq hd 2 rfl) rfl
             have e4 := V.at (zdq hd 4 rfl) rfl
             rw [if_pos (by simp [Region.wanted])]
             go_wp2_with fail
             exact hK _ (.bool true) _ (by simp only [Act.put, pA, pB, pC, e2, e4]) ⟨hB, hz, s0, s1, V.step 5 rfl⟩
           · intro L v W2 hd hn ⟨hB, hz, s0, s1, V⟩ K hK
             have e5 := V.at (zdq hd 5 rfl) rfl
             rw [if_pos (by simp [Region.wanted])]
             go_wp2_with fail
             exact hK _ (.bool true) _ (by simp only [Act.put, pA, pB, pC, e5]) ⟨hB, hz, s0, s1, V.step 6 rfl⟩
           · intro L v W2 hd hn ⟨hB, hz, s0, s1, V⟩ K hK
             have e6 := V.at (zdq hd 6 rfl) rfl
             rw [if_pos (by simp [Region.wanted, yielded, e6])]
             refine zlc s0 Try.underlying26 Try.size26 ?_
             exact hK _ _ _ rfl ⟨hB, hz, s0, s1, V.step 7 rfl⟩
           · intro L v W2 hd hn ⟨hB, hz, s0, s1, V⟩ K hK
             have e7 := V.at (zdq hd 7 rfl) rfl
             have e6 := V.at (zdq hd 6 rfl) rfl
             rw [if_pos (by simp [Region.wanted, yielded, e6])]
             go_wp2_with (go_at_call 69; refine (HDA.out _).mono ?_; rintro e wy ⟨rfl, hy⟩)
             exact hK _ (.int .i64 da) _ (by simp only [Act.put, pA, pB, pC, e7, e6]) ⟨hB.trans (hy.mono hB.size), (Nat.le_trans hz hy.size), s0.zw hy, s1.zw hy, V.step 8 rfl⟩
           · intro L v W2 hd hn ⟨hB, hz, s0, s1, V⟩ K hK
             have e6 := V.at (zdq hd 6 rfl) rfl
             rw [if_pos (by simp [Region.wanted, yielded, e6])]
             refine zlc s1 Try.underlying26 Try.size26 ?_
             exact hK _ _ _ rfl ⟨hB, hz, s0, s1, V.step 9 rfl⟩
           · intro L v W2 hd hn ⟨hB, hz, s0, s1, V⟩ K hK
             have e9 := V.at (zdq hd 9 rfl) rfl
             have e6 := V.at (zdq hd 6 rfl) rfl
             rw [if_pos (by simp [Region.wanted, yielded, e6])]
             go_wp2_with (go_at_call 69; refine (HDB.out _).mono ?_; rintro e wy ⟨rfl, hy⟩)
             exact hK _ (.int .i64 da) _ (by simp only [Act.put, pA, pB, pC, e9, e6]) ⟨hB.trans (hy.mono hB.size), (Nat.le_trans hz hy.size), s0.zw hy, s1.zw hy, V.step 10 rfl⟩
           · intro L v W2 hd hn ⟨hB, hz, s0, s1, V⟩ K hK
             have e8 := V.at (zdq hd 8 rfl) rfl
             have e10 := V.at (zdq hd 10 rfl) rfl
             have e6 := V.at (zdq hd 6 rfl) rfl
             rw [if_pos (by simp [Region.wanted, yielded, e6])]
             go_wp2_with fail
             exact hK _ (.int .i64 da) _ (by simp only [Act.put, pA, pB, pC, e8, e10, e6]) ⟨hB, hz, s0, s1, V.step 11 rfl⟩
           · intro L v W2 hd hn ⟨hB, hz, s0, s1, V⟩ K hK
             have e11 := V.at (zdq hd 11 rfl) rfl
             have e6 := V.at (zdq hd 6 rfl) rfl
             rw [if_pos (by simp [Region.wanted, yielded, e6])]
             go_wp2_with fail
             exact hK _ (.bool true) _ (by simp only [Act.put, pA, pB, pC, e11, e6]) ⟨hB, hz, s0, s1, V.step 12 rfl⟩
           · intro L v W2 hd hn ⟨hB, hz, s0, s1, V⟩ K hK
             have e6 := V.at (zdq hd 6 rfl) rfl
             have e12 := V.at (zdq hd 12 rfl) rfl
             rw [if_pos (by simp [Region.wanted])]
             go_wp2_with fail
             exact hK _ (.bool true) _ (by simp only [Act.put, pA, pB, pC, e6, e12]) ⟨hB, hz, s0, s1, V.step 13 rfl⟩
           · intro L v W2 hd hn ⟨hB, hz, s0, s1, V⟩ K hK
             have e13 := V.at (zdq hd 13 rfl) rfl
             rw [if_pos (by simp [Region.wanted])]
             go_wp2_with fail
             exact hK _ (.bool true) _ (by simp only [Act.put, pA, pB, pC, e13]) ⟨hB, hz, s0, s1, V.step 14 rfl⟩
         · intro L v W2 hL ⟨hB, hz, s0, s1, V⟩
           have e0 := V.at (hL 0 (by decide)) rfl
           have e1 := V.at (hL 1 (by decide)) rfl
           have e2 := V.at (hL 2 (by decide)) rfl
           have e3 := V.at (hL 3 (by decide)) rfl
           have e4 := V.at (hL 4 (by decide)) rfl
           have e5 := V.at (hL 5 (by decide)) rfl
           have e6 := V.at (hL 6 (by decide)) rfl
           have e7 := V.at (hL 7 (by decide)) rfl
           have e8 := V.at (hL 8 (by decide)) rfl
           have e9 := V.at (hL 9 (by decide)) rfl
           have e10 := V.at (hL 10 (by decide)) rfl
           have e11 := V.at (hL 11 (by decide)) rfl
           have e12 := V.at (hL 12 (by decide)) rfl
           have e13 := V.at (hL 13 (by decide)) rfl
           have e14 := V.at (hL 14 (by decide)) rfl
           clear hL V
           simp only [Exit.then, e0, e1, e2, e3, e4, e5, e6, e7, e8, e9, e10, e11, e12, e13, e14]
           clear e0 e1 e2 e3 e4 e5 e6 e7 e8 e9 e10 e11 e12 e13 e14
           replace B0 := s0
           clear s0
           replace B1 := s1
           clear s1
           replace hb := hB
           clear hB
           clear hbase hz lt_B0 lt_B1
           rcases qcC_split p a b true with ⟨c, hc, hc0⟩ | ⟨hc, hrr, m, rfl, hpr, la, lb, hd⟩
           · have HV := Lib.hid (dqV_c (p := p) (a := a) (b := b) (n := n) (c := c) (by rw [← HR.out]; exact hc) hc0)
             have HC := Lib.hid (show ∀ W, Calls Try.prog _ _ W _ from fun W => hc ▸ HCQ.out true W)
             have hcb : (c != 0) = true := by simp [hc0]
             clear hc hc0
             go_upto_region 4 with (first | (refine zla (.tmp 5) B0 Try.underlying26 Try.size26 ?_) | (refine zla (.tmp 6) B1 Try.underlying26 Try.size26 ?_) | (go_at_call 70; refine (HC.out _).mono ?_; rintro e W3 ⟨rfl, hW3⟩; replace B0 := B0.zw hW3; replace B1 := B1.zw hW3; replace hb := (hb).trans (hW3.mono (hb).size)))
             go_wp2_with fail
             go_ret2
             exact ⟨_, w.heap.size, w.heap.size, by rw [HV.out]; rfl, Nat.le_refl _, by rw [HV.out]; exact Seg.nil _ none 0 (Nat.le_refl _) hb.size, hb⟩
           · obtain ⟨n, rfl⟩ : ∃ q : Nat, n = (q : Int) := ⟨n.toNat, by omega⟩
             have HV := Lib.hid (dqV_0 (p := m) (a := a) (b := b) (n := n) (by rw [← HR.out]; exact hc))
             have HC := Lib.hid (show ∀ W, Calls Try.prog _ _ W _ from fun W => hc ▸ HCQ.out true W)
             have HDQ := Lib.hid (fun W => digitsOfQuotient_any m n a b W hpr la lb hd (by omega))
             clear hc la lb hd hrr
             go_upto_region 5 with (first | (refine zla (.tmp 5) B0 Try.underlying26 Try.size26 ?_) | (refine zla (.tmp 6) B1 Try.underlying26 Try.size26 ?_) | (go_at_call 70; refine (HC.out _).mono ?_; rintro e W3 ⟨rfl, hW3⟩; replace B0 := B0.zw hW3; replace B1 := B1.zw hW3; replace hb := (hb).trans (hW3.mono (hb).size)))
             go_wp2_with (first | (refine zla (.tmp 5) B0 Try.underlying26 Try.size26 ?_) | (refine zla (.tmp 6) B1 Try.underlying26 Try.size26 ?_))
             refine (HDQ.out _).mono ?_
             rintro e W9 ⟨v9, lo, hi, rfl, hl9, hS, h9⟩
             have hWs := hb.size
             replace hb := hb.trans (h9.mono hb.size)
             go_wp2_with fail
             go_ret2
             exact ⟨v9, lo, hi, by rw [HV.out]; rfl, by omega, by rw [HV.out]; exact hS, hb⟩
       · have hrv : r = false := by rw [HB.out, decide_eq_false_iff_not]; omega
         subst hrv
         have lt_B0 : (w.heap.size) < W1.heap.size := B0.lt
         have lt_B1 : (w.heap.size + 1) < W1.heap.size := B1.lt
         have hbase : w.heap.size ≤ W1.heap.size := hb.size
         refine wp_region_stepsG Try.mixed (by kernel_rfl) (by kernel_rfl) (fun v => by (simp only [frL, Act.put, pA, pB, pC, Nat.reduceAdd, Nat.zero_add]; exact rfl))
          (fun L v W2 => Below w.heap.size w W2 ∧ W1.heap.size ≤ W2.heap.size ∧ Blk W2 (w.heap.size) 64 26 (a) ∧ Blk W2 (w.heap.size + 1) 64 26 (b) ∧ VF L v [some (.int .i64 n), some (.bool true), some (.bool true), some (.int .i64 n), some (.bool true), some (.bool true), some (.bool true), some (.agg (zb 64 (a))), some (.int .i64 da), some (.agg (zb 64 (b))), some (.int .i64 da), some (.int .i64 da), some (.bool false), some (.bool false), some (.bool false)]) ?_ ?_ ?_
         · intro v hv0
           exact ⟨hb.drew, Nat.le_refl _, B0.drew, B1.drew, VF.start⟩
         · refine (.cons ?_ (.cons ?_ (.cons ?_ (.cons ?_ (.cons ?_ (.cons ?_ (.cons ?_ (.cons ?_ (.cons ?_ (.cons ?_ (.cons ?_ (.cons ?_ (.cons ?_ (.cons ?_ (.cons ?_ (.nil _))))))))))))))))
           · intro L v W2 hd hn ⟨hB, hz, s0, s1, V⟩ K hK
             rw [if_pos (by simp [Region.wanted])]
             go_wp2_with fail
             exact hK _ (.int .i64 n) _ (by simp only [Act.put, pA, pB, pC ]) ⟨hB, hz, s0, s1, V.step 0 rfl⟩
           · intro L v W2 hd hn ⟨hB, hz, s0, s1, V⟩ K hK
             have e0 := V.at (zdq hd 0 rfl) rfl
             rw [if_pos (by simp [Region.wanted])]
             go_wp2_with fail
             exact hK _ (.bool true) _ (by simp only [Act.put, pA, pB, pC, e0]) ⟨hB, hz, s0, s1, V.step 1 rfl⟩
           · intro L v W2 hd hn ⟨hB, hz, s0, s1, V⟩ K hK
             have e1 := V.at (zdq hd 1 rfl) rfl
             rw [if_pos (by simp [Region.wanted])]
             go_wp2_with fail
             exact hK _ (.bool true) _ (by simp only [Act.put, pA, pB, pC, e1]) ⟨hB, hz, s0, s1, V.step 2 rfl⟩
           · intro L v W2 hd hn ⟨hB, hz, s0, s1, V⟩ K hK
             have e2 := V.at (zdq hd 2 rfl) rfl
             rw [if_pos (by simp [Region.wanted, yielded, e2])]
             go_wp2_with fail
             exact hK _ (.int .i64 n) _ (by simp only [Act.put, pA, pB, pC, e2]) ⟨hB, hz, s0, s1, V.step 3 rfl⟩
           · intro L v W2 hd hn ⟨hB, hz, s0, s1, V⟩ K hK
             have e3 := V.at (zdq hd 3 rfl) rfl
             have e2 := V.at (zdq hd 2 rfl) rfl
             rw [if_pos (by simp [Region.wanted, yielded, e2])]
             go_wp2_with fail
             exact hK _ (.bool true) _ (by simp only [Act.put, pA, pB, pC, e3, e2]) ⟨hB, hz, s0, s1, V.step 4 rfl⟩
           · intro L v W2 hd hn ⟨hB, hz, s0, s1, V⟩ K hK
             have e2 := V.at (zdq hd 2 rfl) rfl
             have e4 := V.at (zdq hd 4 rfl) rfl
             rw [if_pos (by simp [Region.wanted])]
             go_wp2_with fail
             exact hK _ (.bool true) _ (by simp only [Act.put, pA, pB, pC, e2, e4]) ⟨hB, hz, s0, s1, V.step 5 rfl⟩
           · intro L v W2 hd hn ⟨hB, hz, s0, s1, V⟩ K hK
             have e5 := V.at (zdq hd 5 rfl) rfl
             rw [if_pos (by simp [Region.wanted])]
             go_wp2_with fail
             exact hK _ (.bool true) _ (by simp only [Act.put, pA, pB, pC, e5]) ⟨hB, hz, s0, s1, V.step 6 rfl⟩
           · intro L v W2 hd hn ⟨hB, hz, s0, s1, V⟩ K hK
             have e6 := V.at (zdq hd 6 rfl) rfl
             rw [if_pos (by simp [Region.wanted, yielded, e6])]
             refine zlc s0 Try.underlying26 Try.size26 ?_
             exact hK _ _ _ rfl ⟨hB, hz, s0, s1, V.step 7 rfl⟩
           · intro L v W2 hd hn ⟨hB, hz, s0, s1, V⟩ K hK
             have e7 := V.at (zdq hd 7 rfl) rfl
             have e6 := V.at (zdq hd 6 rfl) rfl
             rw [if_pos (by simp [Region.wanted, yielded, e6])]
             go_wp2_with (go_at_call 69; refine (HDA.out _).mono ?_; rintro e wy ⟨rfl, hy⟩)
             exact hK _ (.int .i64 da) _ (by simp only [Act.put, pA, pB, pC, e7, e6]) ⟨hB.trans (hy.mono hB.size), (Nat.le_trans hz hy.size), s0.zw hy, s1.zw hy, V.step 8 rfl⟩
           · intro L v W2 hd hn ⟨hB, hz, s0, s1, V⟩ K hK
             have e6 := V.at (zdq hd 6 rfl) rfl
             rw [if_pos (by simp [Region.wanted, yielded, e6])]
             refine zlc s1 Try.underlying26 Try.size26 ?_
             exact hK _ _ _ rfl ⟨hB, hz, s0, s1, V.step 9 rfl⟩
           · intro L v W2 hd hn ⟨hB, hz, s0, s1, V⟩ K hK
             have e9 := V.at (zdq hd 9 rfl) rfl
             have e6 := V.at (zdq hd 6 rfl) rfl
             rw [if_pos (by simp [Region.wanted, yielded, e6])]
             go_wp2_with (go_at_call 69; refine (HDB.out _).mono ?_; rintro e wy ⟨rfl, hy⟩)
             exact hK _ (.int .i64 da) _ (by simp only [Act.put, pA, pB, pC, e9, e6]) ⟨hB.trans (hy.mono hB.size), (Nat.le_trans hz hy.size), s0.zw hy, s1.zw hy, V.step 10 rfl⟩
           · intro L v W2 hd hn ⟨hB, hz, s0, s1, V⟩ K hK
             have e8 := V.at (zdq hd 8 rfl) rfl
             have e10 := V.at (zdq hd 10 rfl) rfl
             have e6 := V.at (zdq hd 6 rfl) rfl
             rw [if_pos (by simp [Region.wanted, yielded, e6])]
             go_wp2_with fail
             exact hK _ (.int .i64 da) _ (by simp only [Act.put, pA, pB, pC, e8, e10, e6]) ⟨hB, hz, s0, s1, V.step 11 rfl⟩
           · intro L v W2 hd hn ⟨hB, hz, s0, s1, V⟩ K hK
             have e11 := V.at (zdq hd 11 rfl) rfl
             have e6 := V.at (zdq hd 6 rfl) rfl
             rw [if_pos (by simp [Region.wanted, yielded, e6])]
             go_wp2_with fail
             exact hK _ (.bool false) _ (by simp only [Act.put, pA, pB, pC, e11, e6]) ⟨hB, hz, s0, s1, V.step 12 rfl⟩
           · intro L v W2 hd hn ⟨hB, hz, s0, s1, V⟩ K hK
             have e6 := V.at (zdq hd 6 rfl) rfl
             have e12 := V.at (zdq hd 12 rfl) rfl
             rw [if_pos (by simp [Region.wanted])]
             go_wp2_with fail
             exact hK _ (.bool false) _ (by simp only [Act.put, pA, pB, pC, e6, e12]) ⟨hB, hz, s0, s1, V.step 13 rfl⟩
           · intro L v W2 hd hn ⟨hB, hz, s0, s1, V⟩ K hK
             have e13 := V.at (zdq hd 13 rfl) rfl
             rw [if_pos (by simp [Region.wanted])]
             go_wp2_with fail
             exact hK _ (.bool false) _ (by simp only [Act.put, pA, pB, pC, e13]) ⟨hB, hz, s0, s1, V.step 14 rfl⟩
         · intro L v W2 hL ⟨hB, hz, s0, s1, V⟩
           have e0 := V.at (hL 0 (by decide)) rfl
           have e1 := V.at (hL 1 (by decide)) rfl
           have e2 := V.at (hL 2 (by decide)) rfl
           have e3 := V.at (hL 3 (by decide)) rfl
           have e4 := V.at (hL 4 (by decide)) rfl
           have e5 := V.at (hL 5 (by decide)) rfl
           have e6 := V.at (hL 6 (by decide)) rfl
           have e7 := V.at (hL 7 (by decide)) rfl
           have e8 := V.at (hL 8 (by decide)) rfl
           have e9 := V.at (hL 9 (by decide)) rfl
           have e10 := V.at (hL 10 (by decide)) rfl
           have e11 := V.at (hL 11 (by decide)) rfl
           have e12 := V.at (hL 12 (by decide)) rfl
           have e13 := V.at (hL 13 (by decide)) rfl
           have e14 := V.at (hL 14 (by decide)) rfl
           clear hL V
           simp only [Exit.then, e0, e1, e2, e3, e4, e5, e6, e7, e8, e9, e10, e11, e12, e13, e14]
           clear e0 e1 e2 e3 e4 e5 e6 e7 e8 e9 e10 e11 e12 e13 e14
           replace B0 := s0
           clear s0
           replace B1 := s1
           clear s1
           replace hb := hB
           clear hB
           clear hbase hz lt_B0 lt_B1
           rcases qcC_split p a b false with ⟨c, hc, hc0⟩ | ⟨hc, hrr, m, rfl, hpr, la, lb, hd⟩
           · have HV := Lib.hid (dqV_c (p := p) (a := a) (b := b) (n := n) (c := c) (by rw [← HR.out]; exact hc) hc0)
             have HC := Lib.hid (show ∀ W, Calls Try.prog _ _ W _ from fun W => hc ▸ HCQ.out false W)
             have hcb : (c != 0) = true := by simp [hc0]
             clear hc hc0
             go_upto_region 4 with (first | (refine zla (.tmp 5) B0 Try.underlying26 Try.size26 ?_) | (refine zla (.tmp 6) B1 Try.underlying26 Try.size26 ?_) | (go_at_call 70; refine (HC.out _).mono ?_; rintro e W3 ⟨rfl, hW3⟩; replace B0 := B0.zw hW3; replace B1 := B1.zw hW3; replace hb := (hb).trans (hW3.mono (hb).size)))
             go_wp2_with fail
             go_ret2
             exact ⟨_, w.heap.size, w.heap.size, by rw [HV.out]; rfl, Nat.le_refl _, by rw [HV.out]; exact Seg.nil _ none 0 (Nat.le_refl _) hb.size, hb⟩
           · cases hrr
     · by_cases hm : da ≤ 62
       · have hrv : r = true := by rw [HB.out, decide_eq_true_iff]; omega
         subst hrv
         have lt_B0 : (w.heap.size) < W1.heap.size := B0.lt
         have lt_B1 : (w.heap.size + 1) < W1.heap.size := B1.lt
         have hbase : w.heap.size ≤ W1.heap.size := hb.size
         refine wp_region_stepsG Try.mixed (by kernel_rfl) (by kernel_rfl) (fun v => by (simp only [frL, Act.put, pA, pB, pC, Nat.reduceAdd, Nat.zero_add]; exact rfl))
          (fun L v W2 => Below w.heap.size w W2 ∧ W1.heap.size ≤ W2.heap.size ∧ Blk W2 (w.heap.size) 64 26 (a) ∧ Blk W2 (w.heap.size + 1) 64 26 (b) ∧ VF L v [some (.int .i64 n), some (.bool true), some (.bool true), some (.int .i64 n), some (.bool true), some (.bool true), some (.bool true), some (.agg (zb 64 (a))), some (.int .i64 da), some (.agg (zb 64 (b))), some (.int .i64 db), some (.int .i64 da), some (.bool true), some (.bool true), some (.bool true)]) ?_ ?_ ?_
         · intro v hv0
           exact ⟨hb.drew, Nat.le_refl _, B0.drew, B1.drew, VF.start⟩
         · refine (.cons ?_ (.cons ?_ (.cons ?_ (.cons ?_ (.cons ?_ (.cons ?_ (.cons ?_ (.cons ?_ (.cons ?_ (.cons ?_ (.cons ?_ (.cons ?_ (.cons ?_ (.cons ?_ (.cons ?_ (.nil _))))))))))))))))
           · intro L v W2 hd hn ⟨hB, hz, s0, s1, V⟩ K hK
             rw [if_pos (by simp [Region.wanted])]
             go_wp2_with fail
             exact hK _ (.int .i64 n) _ (by simp only [Act.put, pA, pB, pC ]) ⟨hB, hz, s0, s1, V.step 0 rfl⟩
           · intro L v W2 hd hn ⟨hB, hz, s0, s1, V⟩ K hK
             have e0 := V.at (zdq hd 0 rfl) rfl
             rw [if_pos (by simp [Region.wanted])]
             go_wp2_with fail
             exact hK _ (.bool true) _ (by simp only [Act.put, pA, pB, pC, e0]) ⟨hB, hz, s0, s1, V.step 1 rfl⟩
           · intro L v W2 hd hn ⟨hB, hz, s0, s1, V⟩ K hK
             have e1 := V.at (zdq hd 1 rfl) rfl
             rw [if_pos (by simp [Region.wanted])]
             go_wp2_with fail
             exact hK _ (.bool true) _ (by simp only [Act.put, pA, pB, pC, e1]) ⟨hB, hz, s0, s1, V.step 2 rfl⟩
           · intro L v W2 hd hn ⟨hB, hz, s0, s1, V⟩ K hK
             have e2 := V.at (zdq hd 2 rfl) rfl
             rw [if_pos (by simp [Region.wanted, yielded, e2])]
             go_wp2_with fail
             exact hK _ (.int .i64 n) _ (by simp only [Act.put, pA, pB, pC, e2]) ⟨hB, hz, s0, s1, V.step 3 rfl⟩
           · intro L v W2 hd hn ⟨hB, hz, s0, s1, V⟩ K hK
             have e3 := V.at (zdq hd 3 rfl) rfl
             have e2 := V.at (zdq hd 2 rfl) rfl
             rw [if_pos (by simp [Region.wanted, yielded, e2])]
             go_wp2_with fail
             exact hK _ (.bool true) _ (by simp only [Act.put, pA, pB, pC, e3, e2]) ⟨hB, hz, s0, s1, V.step 4 rfl⟩
           · intro L v W2 hd hn ⟨hB, hz, s0, s1, V⟩ K hK
             have e2 := V.at (zdq hd 2 rfl) rfl
             have e4 := V.at (zdq hd 4 rfl) rfl
             rw [if_pos (by simp [Region.wanted])]
             go_wp2_with fail
             exact hK _ (.bool true) _ (by simp only [Act.put, pA, pB, pC, e2, e4]) ⟨hB, hz, s0, s1, V.step 5 rfl⟩
           · intro L v W2 hd hn ⟨hB, hz, s0, s1, V⟩ K hK
             have e5 := V.at (zdq hd 5 rfl) rfl
             rw [if_pos (by simp [Region.wanted])]
             go_wp2_with fail
             exact hK _ (.bool true) _ (by simp only [Act.put, pA, pB, pC, e5]) ⟨hB, hz, s0, s1, V.step 6 rfl⟩
           · intro L v W2 hd hn ⟨hB, hz, s0, s1, V⟩ K hK
             have e6 := V.at (zdq hd 6 rfl) rfl
             rw [if_pos (by simp [Region.wanted, yielded, e6])]
             refine zlc s0 Try.underlying26 Try.size26 ?_
             exact hK _ _ _ rfl ⟨hB, hz, s0, s1, V.step 7 rfl⟩
           · intro L v W2 hd hn ⟨hB, hz, s0, s1, V⟩ K hK
             have e7 := V.at (zdq hd 7 rfl) rfl
             have e6 := V.at (zdq hd 6 rfl) rfl
             rw [if_pos (by simp [Region.wanted, yielded, e6])]
             go_wp2_with (go_at_call 69; refine (HDA.out _).mono ?_; rintro e wy ⟨rfl, hy⟩)
             exact hK _ (.int .i64 da) _ (by simp only [Act.put, pA, pB, pC, e7, e6]) ⟨hB.trans (hy.mono hB.size), (Nat.le_trans hz hy.size), s0.zw hy, s1.zw hy, V.step 8 rfl⟩
           · intro L v W2 hd hn ⟨hB, hz, s0, s1, V⟩ K hK
             have e6 := V.at (zdq hd 6 rfl) rfl
             rw [if_pos (by simp [Region.wanted, yielded, e6])]
             refine zlc s1 Try.underlying26 Try.size26 ?_
             exact hK _ _ _ rfl ⟨hB, hz, s0, s1, V.step 9 rfl⟩
           · intro L v W2 hd hn ⟨hB, hz, s0, s1, V⟩ K hK
             have e9 := V.at (zdq hd 9 rfl) rfl
             have e6 := V.at (zdq hd 6 rfl) rfl
             rw [if_pos (by simp [Region.wanted, yielded, e6])]
             go_wp2_with (go_at_call 69; refine (HDB.out _).mono ?_; rintro e wy ⟨rfl, hy⟩)
             exact hK _ (.int .i64 db) _ (by simp only [Act.put, pA, pB, pC, e9, e6]) ⟨hB.trans (hy.mono hB.size), (Nat.le_trans hz hy.size), s0.zw hy, s1.zw hy, V.step 10 rfl⟩
           · intro L v W2 hd hn ⟨hB, hz, s0, s1, V⟩ K hK
             have e8 := V.at (zdq hd 8 rfl) rfl
             have e10 := V.at (zdq hd 10 rfl) rfl
             have e6 := V.at (zdq hd 6 rfl) rfl
             rw [if_pos (by simp [Region.wanted, yielded, e6])]
             go_wp2_with fail
             exact hK _ (.int .i64 da) _ (by simp only [Act.put, pA, pB, pC, e8, e10, e6]) ⟨hB, hz, s0, s1, V.step 11 rfl⟩
           · intro L v W2 hd hn ⟨hB, hz, s0, s1, V⟩ K hK
             have e11 := V.at (zdq hd 11 rfl) rfl
             have e6 := V.at (zdq hd 6 rfl) rfl
             rw [if_pos (by simp [Region.wanted, yielded, e6])]
             go_wp2_with fail
             exact hK _ (.bool true) _ (by simp only [Act.put, pA, pB, pC, e11, e6]) ⟨hB, hz, s0, s1, V.step 12 rfl⟩
           · intro L v W2 hd hn ⟨hB, hz, s0, s1, V⟩ K hK
             have e6 := V.at (zdq hd 6 rfl) rfl
             have e12 := V.at (zdq hd 12 rfl) rfl
             rw [if_pos (by simp [Region.wanted])]
             go_wp2_with fail
             exact hK _ (.bool true) _ (by simp only [Act.put, pA, pB, pC, e6, e12]) ⟨hB, hz, s0, s1, V.step 13 rfl⟩
           · intro L v W2 hd hn ⟨hB, hz, s0, s1, V⟩ K hK
             have e13 := V.at (zdq hd 13 rfl) rfl
             rw [if_pos (by simp [Region.wanted])]
             go_wp2_with fail
             exact hK _ (.bool true) _ (by simp only [Act.put, pA, pB, pC, e13]) ⟨hB, hz, s0, s1, V.step 14 rfl⟩
         · intro L v W2 hL ⟨hB, hz, s0, s1, V⟩
           have e0 := V.at (hL 0 (by decide)) rfl
           have e1 := V.at (hL 1 (by decide)) rfl
           have e2 := V.at (hL 2 (by decide)) rfl
           have e3 := V.at (hL 3 (by decide)) rfl
           have e4 := V.at (hL 4 (by decide)) rfl
           have e5 := V.at (hL 5 (by decide)) rfl
           have e6 := V.at (hL 6 (by decide)) rfl
           have e7 := V.at (hL 7 (by decide)) rfl
           have e8 := V.at (hL 8 (by decide)) rfl
           have e9 := V.at (hL 9 (by decide)) rfl
           have e10 := V.at (hL 10 (by decide)) rfl
           have e11 := V.at (hL 11 (by decide)) rfl
           have e12 := V.at (hL 12 (by decide)) rfl
           have e13 := V.at (hL 13 (by decide)) rfl
           have e14 := V.at (hL 14 (by decide)) rfl
           clear hL V
           simp only [Exit.then, e0, e1, e2, e3, e4, e5, e6, e7, e8, e9, e10, e11, e12, e13, e14]
           clear e0 e1 e2 e3 e4 e5 e6 e7 e8 e9 e10 e11 e12 e13 e14
           replace B0 := s0
           clear s0
           replace B1 := s1
           clear s1
           replace hb := hB
           clear hB
           clear hbase hz lt_B0 lt_B1
           rcases qcC_split p a b true with ⟨c, hc, hc0⟩ | ⟨hc, hrr, m, rfl, hpr, la, lb, hd⟩
           · have HV := Lib.hid (dqV_c (p := p) (a := a) (b := b) (n := n) (c := c) (by rw [← HR.out]; exact hc) hc0)
             have HC := Lib.hid (show ∀ W, Calls Try.prog _ _ W _ from fun W => hc ▸ HCQ.out true W)
             have hcb : (c != 0) = true := by simp [hc0]
             clear hc hc0
             go_upto_region 4 with (first | (refine zla (.tmp 5) B0 Try.underlying26 Try.size26 ?_) | (refine zla (.tmp 6) B1 Try.underlying26 Try.size26 ?_) | (go_at_call 70; refine (HC.out _).mono ?_; rintro e W3 ⟨rfl, hW3⟩; replace B0 := B0.zw hW3; replace B1 := B1.zw hW3; replace hb := (hb).trans (hW3.mono (hb).size)))
             go_wp2_with fail
             go_ret2
             exact ⟨_, w.heap.size, w.heap.size, by rw [HV.out]; rfl, Nat.le_refl _, by rw [HV.out]; exact Seg.nil _ none 0 (Nat.le_refl _) hb.size, hb⟩
           · obtain ⟨n, rfl⟩ : ∃ q : Nat, n = (q : Int) := ⟨n.toNat, by omega⟩
             have HV := Lib.hid (dqV_0 (p := m) (a := a) (b := b) (n := n) (by rw [← HR.out]; exact hc))
             have HC := Lib.hid (show ∀ W, Calls Try.prog _ _ W _ from fun W => hc ▸ HCQ.out true W)
             have HDQ := Lib.hid (fun W => digitsOfQuotient_any m n a b W hpr la lb hd (by omega))
             clear hc la lb hd hrr
             go_upto_region 5 with (first | (refine zla (.tmp 5) B0 Try.underlying26 Try.size26 ?_) | (refine zla (.tmp 6) B1 Try.underlying26 Try.size26 ?_) | (go_at_call 70; refine (HC.out _).mono ?_; rintro e W3 ⟨rfl, hW3⟩; replace B0 := B0.zw hW3; replace B1 := B1.zw hW3; replace hb := (hb).trans (hW3.mono (hb).size)))
             go_wp2_with (first | (refine zla (.tmp 5) B0 Try.underlying26 Try.size26 ?_) | (refine zla (.tmp 6) B1 Try.underlying26 Try.size26 ?_))
             refine (HDQ.out _).mono ?_
             rintro e W9 ⟨v9, lo, hi, rfl, hl9, hS, h9⟩
             have hWs := hb.size
             replace hb := hb.trans (h9.mono hb.size)
             go_wp2_with fail
             go_ret2
             exact ⟨v9, lo, hi, by rw [HV.out]; rfl, by omega, by rw [HV.out]; exact hS, hb⟩
       · have hrv : r = false := by rw [HB.out, decide_eq_false_iff_not]; omega
         subst hrv
         have lt_B0 : (w.heap.size) < W1.heap.size := B0.lt
         have lt_B1 : (w.heap.size + 1) < W1.heap.size := B1.lt
         have hbase : w.heap.size ≤ W1.heap.size := hb.size
         refine wp_region_stepsG Try.mixed (by kernel_rfl) (by kernel_rfl) (fun v => by (simp only [frL, Act.put, pA, pB, pC, Nat.reduceAdd, Nat.zero_add]; exact rfl))
          (fun L v W2 => Below w.heap.size w W2 ∧ W1.heap.size ≤ W2.heap.size ∧ Blk W2 (w.heap.size) 64 26 (a) ∧ Blk W2 (w.heap.size + 1) 64 26 (b) ∧ VF L v [some (.int .i64 n), some (.bool true), some (.bool true), some (.int .i64 n), some (.bool true), some (.bool true), some (.bool true), some (.agg (zb 64 (a))), some (.int .i64 da), some (.agg (zb 64 (b))), some (.int .i64 db), some (.int .i64 da), some (.bool false), some (.bool false), some (.bool false)]) ?_ ?_ ?_
         · intro v hv0
           exact ⟨hb.drew, Nat.le_refl _, B0.drew, B1.drew, VF.start⟩
         · refine (.cons ?_ (.cons ?_ (.cons ?_ (.cons ?_ (.cons ?_ (.cons ?_ (.cons ?_ (.cons ?_ (.cons ?_ (.cons ?_ (.cons ?_ (.cons ?_ (.cons ?_ (.cons ?_ (.cons ?_ (.nil _))))))))))))))))
           · intro L v W2 hd hn ⟨hB, hz, s0, s1, V⟩ K hK
             rw [if_pos (by simp [Region.wanted])]
             go_wp2_with fail
             exact hK _ (.int .i64 n) _ (by simp only [Act.put, pA, pB, pC ]) ⟨hB, hz, s0, s1, V.step 0 rfl⟩
           · intro L v W2 hd hn ⟨hB, hz, s0, s1, V⟩ K hK
             have e0 := V.at (zdq hd 0 rfl) rfl
             rw [if_pos (by simp [Region.wanted])]
             go_wp2_with fail
             exact hK _ (.bool true) _ (by simp only [Act.put, pA, pB, pC, e0]) ⟨hB, hz, s0, s1, V.step 1 rfl⟩
           · intro L v W2 hd hn ⟨hB, hz, s0, s1, V⟩ K hK
             have e1 := V.at (zdq hd 1 rfl) rfl
             rw [if_pos (by simp [Region.wanted])]
             go_wp2_with fail
             exact hK _ (.bool true) _ (by simp only [Act.put, pA, pB, pC, e1]) ⟨hB, hz, s0, s1, V.step 2 rfl⟩
           · intro L v W2 hd hn ⟨hB, hz, s0, s1, V⟩ K hK
             have e2 := V.at (zdq hd 2 rfl) rfl
             rw [if_pos (by simp [Region.wanted, yielded, e2])]
             go_wp2_with fail
             exact hK _ (.int .i64 n) _ (by simp only [Act.put, pA, pB, pC, e2]) ⟨hB, hz, s0, s1, V.step 3 rfl⟩
           · intro L v W2 hd hn ⟨hB, hz, s0, s1, V⟩ K hK
             have e3 := V.at (zdq hd 3 rfl) rfl
             have e2 := V.at (zdq hd 2 rfl) rfl
             rw [if_pos (by simp [Region.wanted, yielded, e2])]
             go_wp2_with fail
             exact hK _ (.bool true) _ (by simp only [Act.put, pA, pB, pC, e3, e2]) ⟨hB, hz, s0, s1, V.step 4 rfl⟩
           · intro L v W2 hd hn ⟨hB, hz, s0, s1, V⟩ K hK
             have e2 := V.at (zdq hd 2 rfl) rfl
             have e4 := V.at (zdq hd 4 rfl) rfl
             rw [if_pos (by simp [Region.wanted])]
             go_wp2_with fail
             exact hK _ (.bool true) _ (by simp only [Act.put, pA, pB, pC, e2, e4]) ⟨hB, hz, s0, s1, V.step 5 rfl⟩
           · intro L v W2 hd hn ⟨hB, hz, s0, s1, V⟩ K hK
             have e5 := V.at (zdq hd 5 rfl) rfl
             rw [if_pos (by simp [Region.wanted])]
             go_wp2_with fail
             exact hK _ (.bool true) _ (by simp only [Act.put, pA, pB, pC, e5]) ⟨hB, hz, s0, s1, V.step 6 rfl⟩
           · intro L v W2 hd hn ⟨hB, hz, s0, s1, V⟩ K hK
             have e6 := V.at (zdq hd 6 rfl) rfl
             rw [if_pos (by simp [Region.wanted, yielded, e6])]
             refine zlc s0 Try.underlying26 Try.size26 ?_
             exact hK _ _ _ rfl ⟨hB, hz, s0, s1, V.step 7 rfl⟩
           · intro L v W2 hd hn ⟨hB, hz, s0, s1, V⟩ K hK
             have e7 := V.at (zdq hd 7 rfl) rfl
             have e6 := V.at (zdq hd 6 rfl) rfl
             rw [if_pos (by simp [Region.wanted, yielded, e6])]
             go_wp2_with (go_at_call 69; refine (HDA.out _).mono ?_; rintro e wy ⟨rfl, hy⟩)
             exact hK _ (.int .i64 da) _ (by simp only [Act.put, pA, pB, pC, e7, e6]) ⟨hB.trans (hy.mono hB.size), (Nat.le_trans hz hy.size), s0.zw hy, s1.zw hy, V.step 8 rfl⟩
           · intro L v W2 hd hn ⟨hB, hz, s0, s1, V⟩ K hK
             have e6 := V.at (zdq hd 6 rfl) rfl
             rw [if_pos (by simp [Region.wanted, yielded, e6])]
             refine zlc s1 Try.underlying26 Try.size26 ?_
             exact hK _ _ _ rfl ⟨hB, hz, s0, s1, V.step 9 rfl⟩
           · intro L v W2 hd hn ⟨hB, hz, s0, s1, V⟩ K hK
             have e9 := V.at (zdq hd 9 rfl) rfl
             have e6 := V.at (zdq hd 6 rfl) rfl
             rw [if_pos (by simp [Region.wanted, yielded, e6])]
             go_wp2_with (go_at_call 69; refine (HDB.out _).mono ?_; rintro e wy ⟨rfl, hy⟩)
             exact hK _ (.int .i64 db) _ (by simp only [Act.put, pA, pB, pC, e9, e6]) ⟨hB.trans (hy.mono hB.size), (Nat.le_trans hz hy.size), s0.zw hy, s1.zw hy, V.step 10 rfl⟩
           · intro L v W2 hd hn ⟨hB, hz, s0, s1, V⟩ K hK
             have e8 := V.at (zdq hd 8 rfl) rfl
             have e10 := V.at (zdq hd 10 rfl) rfl
             have e6 := V.at (zdq hd 6 rfl) rfl
             rw [if_pos (by simp [Region.wanted, yielded, e6])]
             go_wp2_with fail
             exact hK _ (.int .i64 da) _ (by simp only [Act.put, pA, pB, pC, e8, e10, e6]) ⟨hB, hz, s0, s1, V.step 11 rfl⟩
           · intro L v W2 hd hn ⟨hB, hz, s0, s1, V⟩ K hK
             have e11 := V.at (zdq hd 11 rfl) rfl
             have e6 := V.at (zdq hd 6 rfl) rfl
             rw [if_pos (by simp [Region.wanted, yielded, e6])]
             go_wp2_with fail
             exact hK _ (.bool false) _ (by simp only [Act.put, pA, pB, pC, e11, e6]) ⟨hB, hz, s0, s1, V.step 12 rfl⟩
           · intro L v W2 hd hn ⟨hB, hz, s0, s1, V⟩ K hK
             have e6 := V.at (zdq hd 6 rfl) rfl
             have e12 := V.at (zdq hd 12 rfl) rfl
             rw [if_pos (by simp [Region.wanted])]
             go_wp2_with fail
             exact hK _ (.bool false) _ (by simp only [Act.put, pA, pB, pC, e6, e12]) ⟨hB, hz, s0, s1, V.step 13 rfl⟩
           · intro L v W2 hd hn ⟨hB, hz, s0, s1, V⟩ K hK
             have e13 := V.at (zdq hd 13 rfl) rfl
             rw [if_pos (by simp [Region.wanted])]
             go_wp2_with fail
             exact hK _ (.bool false) _ (by simp only [Act.put, pA, pB, pC, e13]) ⟨hB, hz, s0, s1, V.step 14 rfl⟩
         · intro L v W2 hL ⟨hB, hz, s0, s1, V⟩
           have e0 := V.at (hL 0 (by decide)) rfl
           have e1 := V.at (hL 1 (by decide)) rfl
           have e2 := V.at (hL 2 (by decide)) rfl
           have e3 := V.at (hL 3 (by decide)) rfl
           have e4 := V.at (hL 4 (by decide)) rfl
           have e5 := V.at (hL 5 (by decide)) rfl
           have e6 := V.at (hL 6 (by decide)) rfl
           have e7 := V.at (hL 7 (by decide)) rfl
           have e8 := V.at (hL 8 (by decide)) rfl
           have e9 := V.at (hL 9 (by decide)) rfl
           have e10 := V.at (hL 10 (by decide)) rfl
           have e11 := V.at (hL 11 (by decide)) rfl
           have e12 := V.at (hL 12 (by decide)) rfl
           have e13 := V.at (hL 13 (by decide)) rfl
           have e14 := V.at (hL 14 (by decide)) rfl
           clear hL V
           simp only [Exit.then, e0, e1, e2, e3, e4, e5, e6, e7, e8, e9, e10, e11, e12, e13, e14]
           clear e0 e1 e2 e3 e4 e5 e6 e7 e8 e9 e10 e11 e12 e13 e14
           replace B0 := s0
           clear s0
           replace B1 := s1
           clear s1
           replace hb := hB
           clear hB
           clear hbase hz lt_B0 lt_B1
           rcases qcC_split p a b false with ⟨c, hc, hc0⟩ | ⟨hc, hrr, m, rfl, hpr, la, lb, hd⟩
           · have HV := Lib.hid (dqV_c (p := p) (a := a) (b := b) (n := n) (c := c) (by rw [← HR.out]; exact hc) hc0)
             have HC := Lib.hid (show ∀ W, Calls Try.prog _ _ W _ from fun W => hc ▸ HCQ.out false W)
             have hcb : (c != 0) = true := by simp [hc0]
             clear hc hc0
             go_upto_region 4 with (first | (refine zla (.tmp 5) B0 Try.underlying26 Try.size26 ?_) | (refine zla (.tmp 6) B1 Try.underlying26 Try.size26 ?_) | (go_at_call 70; refine (HC.out _).mono ?_; rintro e W3 ⟨rfl, hW3⟩; replace B0 := B0.zw hW3; replace B1 := B1.zw hW3; replace hb := (hb).trans (hW3.mono (hb).size)))
             go_wp2_with fail
             go_ret2
             exact ⟨_, w.heap.size, w.heap.size, by rw [HV.out]; rfl, Nat.le_refl _, by rw [HV.out]; exact Seg.nil _ none 0 (Nat.le_refl _) hb.size, hb⟩
           · cases hrr
   · have hrv : r = false := by rw [HB.out, decide_eq_false_iff_not]; omega
     subst hrv
     have h4b : ¬ n ≤ 40 := h4
     have h4c : 40 < n := by omega
     have lt_B0 : (w.heap.size) < W1.heap.size := B0.lt
     have lt_B1 : (w.heap.size + 1) < W1.heap.size := B1.lt
     have hbase : w.heap.size ≤ W1.heap.size := hb.size
     refine wp_region_stepsG Try.mixed (by kernel_rfl) (by kernel_rfl) (fun v => by (simp only [frL, Act.put, pA, pB, pC, Nat.reduceAdd, Nat.zero_add]; exact rfl))
      (fun L v W2 => Below w.heap.size w W2 ∧ W1.heap.size ≤ W2.heap.size ∧ Blk W2 (w.heap.size) 64 26 (a) ∧ Blk W2 (w.heap.size + 1) 64 26 (b) ∧ VF L v [some (.int .i64 n), some (.bool true), some (.bool true), some (.int .i64 n), some (.bool false), some (.bool false), some (.bool false), some undef, some undef, some undef, some undef, some undef, some undef, some (.bool false), some (.bool false)]) ?_ ?_ ?_
     · intro v hv0
       exact ⟨hb.drew, Nat.le_refl _, B0.drew, B1.drew, VF.start⟩
     · refine (.cons ?_ (.cons ?_ (.cons ?_ (.cons ?_ (.cons ?_ (.cons ?_ (.cons ?_ (.cons ?_ (.cons ?_ (.cons ?_ (.cons ?_ (.cons ?_ (.cons ?_ (.cons ?_ (.cons ?_ (.nil _))))))))))))))))
       · intro L v W2 hd hn ⟨hB, hz, s0, s1, V⟩ K hK
         rw [if_pos (by simp [Region.wanted])]
         go_wp2_with fail
         exact hK _ (.int .i64 n) _ (by simp only [Act.put, pA, pB, pC ]) ⟨hB, hz, s0, s1, V.step 0 rfl⟩
       · intro L v W2 hd hn ⟨hB, hz, s0, s1, V⟩ K hK
         have e0 := V.at (zdq hd 0 rfl) rfl
         rw [if_pos (by simp [Region.wanted])]
         go_wp2_with fail
         exact hK _ (.bool true) _ (by simp only [Act.put, pA, pB, pC, e0]) ⟨hB, hz, s0, s1, V.step 1 rfl⟩
       · intro L v W2 hd hn ⟨hB, hz, s0, s1, V⟩ K hK
         have e1 := V.at (zdq hd 1 rfl) rfl
         rw [if_pos (by simp [Region.wanted])]
         go_wp2_with fail
         exact hK _ (.bool true) _ (by simp only [Act.put, pA, pB, pC, e1]) ⟨hB, hz, s0, s1, V.step 2 rfl⟩
       · intro L v W2 hd hn ⟨hB, hz, s0, s1, V⟩ K hK
         have e2 := V.at (zdq hd 2 rfl) rfl
         rw [if_pos (by simp [Region.wanted, yielded, e2])]
         go_wp2_with fail
         exact hK _ (.int .i64 n) _ (by simp only [Act.put, pA, pB, pC, e2]) ⟨hB, hz, s0, s1, V.step 3 rfl⟩
       · intro L v W2 hd hn ⟨hB, hz, s0, s1, V⟩ K hK
         have e3 := V.at (zdq hd 3 rfl) rfl
         have e2 := V.at (zdq hd 2 rfl) rfl
         rw [if_pos (by simp [Region.wanted, yielded, e2])]
         go_wp2_with fail
         exact hK _ (.bool false) _ (by simp only [Act.put, pA, pB, pC, e3, e2]) ⟨hB, hz, s0, s1, V.step 4 rfl⟩
       · intro L v W2 hd hn ⟨hB, hz, s0, s1, V⟩ K hK
         have e2 := V.at (zdq hd 2 rfl) rfl
         have e4 := V.at (zdq hd 4 rfl) rfl
         rw [if_pos (by simp [Region.wanted])]
         go_wp2_with fail
         exact hK _ (.bool false) _ (by simp only [Act.put, pA, pB, pC, e2, e4]) ⟨hB, hz, s0, s1, V.step 5 rfl⟩
       · intro L v W2 hd hn ⟨hB, hz, s0, s1, V⟩ K hK
         have e5 := V.at (zdq hd 5 rfl) rfl
         rw [if_pos (by simp [Region.wanted])]
         go_wp2_with fail
         exact hK _ (.bool false) _ (by simp only [Act.put, pA, pB, pC, e5]) ⟨hB, hz, s0, s1, V.step 6 rfl⟩
       · intro L v W2 hd hn ⟨hB, hz, s0, s1, V⟩ K hK
         have e6 := V.at (zdq hd 6 rfl) rfl
         rw [if_neg (by simp [Region.wanted, yielded, e6])]
         exact hK _ undef _ rfl ⟨hB, hz, s0, s1, V.step 7 rfl⟩
       · intro L v W2 hd hn ⟨hB, hz, s0, s1, V⟩ K hK
         have e7 := V.at (zdq hd 7 rfl) rfl
         have e6 := V.at (zdq hd 6 rfl) rfl
         rw [if_neg (by simp [Region.wanted, yielded, e6])]
         exact hK _ undef _ rfl ⟨hB, hz, s0, s1, V.step 8 rfl⟩
       · intro L v W2 hd hn ⟨hB, hz, s0, s1, V⟩ K hK
         have e6 := V.at (zdq hd 6 rfl) rfl
         rw [if_neg (by simp [Region.wanted, yielded, e6])]
         exact hK _ undef _ rfl ⟨hB, hz, s0, s1, V.step 9 rfl⟩
       · intro L v W2 hd hn ⟨hB, hz, s0, s1, V⟩ K hK
         have e9 := V.at (zdq hd 9 rfl) rfl
         have e6 := V.at (zdq hd 6 rfl) rfl
         rw [if_neg (by simp [Region.wanted, yielded, e6])]
         exact hK _ undef _ rfl ⟨hB, hz, s0, s1, V.step 10 rfl⟩
       · intro L v W2 hd hn ⟨hB, hz, s0, s1, V⟩ K hK
         have e8 := V.at (zdq hd 8 rfl) rfl
         have e10 := V.at (zdq hd 10 rfl) rfl
         have e6 := V.at (zdq hd 6 rfl) rfl
         rw [if_neg (by simp [Region.wanted, yielded, e6])]
         exact hK _ undef _ rfl ⟨hB, hz, s0, s1, V.step 11 rfl⟩
       · intro L v W2 hd hn ⟨hB, hz, s0, s1, V⟩ K hK
         have e11 := V.at (zdq hd 11 rfl) rfl
         have e6 := V.at (zdq hd 6 rfl) rfl
         rw [if_neg (by simp [Region.wanted, yielded, e6])]
         exact hK _ undef _ rfl ⟨hB, hz, s0, s1, V.step 12 rfl⟩
       · intro L v W2 hd hn ⟨hB, hz, s0, s1, V⟩ K hK
         have e6 := V.at (zdq hd 6 rfl) rfl
         have e12 := V.at (zdq hd 12 rfl) rfl
         rw [if_pos (by simp [Region.wanted])]
         go_wp2_with fail
         exact hK _ (.bool false) _ (by simp only [Act.put, pA, pB, pC, e6, e12]) ⟨hB, hz, s0, s1, V.step 13 rfl⟩
       · intro L v W2 hd hn ⟨hB, hz, s0, s1, V⟩ K hK
         have e13 := V.at (zdq hd 13 rfl) rfl
         rw [if_pos (by simp [Region.wanted])]
         go_wp2_with fail
         exact hK _ (.bool false) _ (by simp only [Act.put, pA, pB, pC, e13]) ⟨hB, hz, s0, s1, V.step 14 rfl⟩
     · intro L v W2 hL ⟨hB, hz, s0, s1, V⟩
       have e0 := V.at (hL 0 (by decide)) rfl
       have e1 := V.at (hL 1 (by decide)) rfl
       have e2 := V.at (hL 2 (by decide)) rfl
       have e3 := V.at (hL 3 (by decide)) rfl
       have e4 := V.at (hL 4 (by decide)) rfl
       have e5 := V.at (hL 5 (by decide)) rfl
       have e6 := V.at (hL 6 (by decide)) rfl
       have e7 := V.at (hL 7 (by decide)) rfl
       have e8 := V.at (hL 8 (by decide)) rfl
       have e9 := V.at (hL 9 (by decide)) rfl
       have e10 := V.at (hL 10 (by decide)) rfl
       have e11 := V.at (hL 11 (by decide)) rfl
       have e12 := V.at (hL 12 (by decide)) rfl
       have e13 := V.at (hL 13 (by decide)) rfl
       have e14 := V.at (hL 14 (by decide)) rfl
       clear hL V
       simp only [Exit.then, e0, e1, e2, e3, e4, e5, e6, e7, e8, e9, e10, e11, e12, e13, e14]
       clear e0 e1 e2 e3 e4 e5 e6 e7 e8 e9 e10 e11 e12 e13 e14
       replace B0 := s0
       clear s0
       replace B1 := s1
       clear s1
       replace hb := hB
       clear hB
       clear hbase hz lt_B0 lt_B1
       rcases qcC_split p a b false with ⟨c, hc, hc0⟩ | ⟨hc, hrr, m, rfl, hpr, la, lb, hd⟩
       · have HV := Lib.hid (dqV_c (p := p) (a := a) (b := b) (n := n) (c := c) (by rw [← HR.out]; exact hc) hc0)
         have HC := Lib.hid (show ∀ W, Calls Try.prog _ _ W _ from fun W => hc ▸ HCQ.out false W)
         have hcb : (c != 0) = true := by simp [hc0]
         clear hc hc0
         go_upto_region 4 with (first | (refine zla (.tmp 5) B0 Try.underlying26 Try.size26 ?_) | (refine zla (.tmp 6) B1 Try.underlying26 Try.size26 ?_) | (go_at_call 70; refine (HC.out _).mono ?_; rintro e W3 ⟨rfl, hW3⟩; replace B0 := B0.zw hW3; replace B1 := B1.zw hW3; replace hb := (hb).trans (hW3.mono (hb).size)))
         go_wp2_with fail
         go_ret2
         exact ⟨_, w.heap.size, w.heap.size, by rw [HV.out]; rfl, Nat.le_refl _, by rw [HV.out]; exact Seg.nil _ none 0 (Nat.le_refl _) hb.size, hb⟩
       · cases hrr
 · have hrv : r = false := by rw [HB.out, decide_eq_false_iff_not]; omega
   subst hrv
   have h0b : ¬ n ≥ 0 := by omega
   have h0c : n < 0 := by omega
   have lt_B0 : (w.heap.size) < W1.heap.size := B0.lt
   have lt_B1 : (w.heap.size + 1) < W1.heap.size := B1.lt
   have hbase : w.heap.size ≤ W1.heap.size := hb.size
   refine wp_region_stepsG Try.mixed (by kernel_rfl) (by kernel_rfl) (fun v => by (simp only [frL, Act.put, pA, pB, pC, Nat.reduceAdd, Nat.zero_add]; exact rfl))
    (fun L v W2 => Below w.heap.size w W2 ∧ W1.heap.size ≤ W2.heap.size ∧ Blk W2 (w.heap.size) 64 26 (a) ∧ Blk W2 (w.heap.size + 1) 64 26 (b) ∧ VF L v [some (.int .i64 n), some (.bool false), some (.bool false), some undef, some undef, some (.bool false), some (.bool false), some undef, some undef, some undef, some undef, some undef, some undef, some (.bool false), some (.bool false)]) ?_ ?_ ?_
   · intro v hv0
     exact ⟨hb.drew, Nat.le_refl _, B0.drew, B1.drew, VF.start⟩
   · refine (.cons ?_ (.cons ?_ (.cons ?_ (.cons ?_ (.cons ?_ (.cons ?_ (.cons ?_ (.cons ?_ (.cons ?_ (.cons ?_ (.cons ?_ (.cons ?_ (.cons ?_ (.cons ?_ (.cons ?_ (.nil _))))))))))))))))
     · intro L v W2 hd hn ⟨hB, hz, s0, s1, V⟩ K hK
       rw [if_pos (by simp [Region.wanted])]
       go_wp2_with fail
       exact hK _ (.int .i64 n) _ (by simp only [Act.put, pA, pB, pC ]) ⟨hB, hz, s0, s1, V.step 0 rfl⟩
     · intro L v W2 hd hn ⟨hB, hz, s0, s1, V⟩ K hK
       have e0 := V.at (zdq hd 0 rfl) rfl
       rw [if_pos (by simp [Region.wanted])]
       go_wp2_with fail
       exact hK _ (.bool false) _ (by simp only [Act.put, pA, pB, pC, e0]) ⟨hB, hz, s0, s1, V.step 1 rfl⟩
     · intro L v W2 hd hn ⟨hB, hz, s0, s1, V⟩ K hK
       have e1 := V.at (zdq hd 1 rfl) rfl
       rw [if_pos (by simp [Region.wanted])]
       go_wp2_with fail
       exact hK _ (.bool false) _ (by simp only [Act.put, pA, pB, pC, e1]) ⟨hB, hz, s0, s1, V.step 2 rfl⟩
     · intro L v W2 hd hn ⟨hB, hz, s0, s1, V⟩ K hK
       have e2 := V.at (zdq hd 2 rfl) rfl
       rw [if_neg (by simp [Region.wanted, yielded, e2])]
       exact hK _ undef _ rfl ⟨hB, hz, s0, s1, V.step 3 rfl⟩
     · intro L v W2 hd hn ⟨hB, hz, s0, s1, V⟩ K hK
       have e3 := V.at (zdq hd 3 rfl) rfl
       have e2 := V.at (zdq hd 2 rfl) rfl
       rw [if_neg (by simp [Region.wanted, yielded, e2])]
       exact hK _ undef _ rfl ⟨hB, hz, s0, s1, V.step 4 rfl⟩
     · intro L v W2 hd hn ⟨hB, hz, s0, s1, V⟩ K hK
       have e2 := V.at (zdq hd 2 rfl) rfl
       have e4 := V.at (zdq hd 4 rfl) rfl
       rw [if_pos (by simp [Region.wanted])]
       go_wp2_with fail
       exact hK _ (.bool false) _ (by simp only [Act.put, pA, pB, pC, e2, e4]) ⟨hB, hz, s0, s1, V.step 5 rfl⟩
     · intro L v W2 hd hn ⟨hB, hz, s0, s1, V⟩ K hK
       have e5 := V.at (zdq hd 5 rfl) rfl
       rw [if_pos (by simp [Region.wanted])]
       go_wp2_with fail
       exact hK _ (.bool false) _ (by simp only [Act.put, pA, pB, pC, e5]) ⟨hB, hz, s0, s1, V.step 6 rfl⟩
     · intro L v W2 hd hn ⟨hB, hz, s0, s1, V⟩ K hK
       have e6 := V.at (zdq hd 6 rfl) rfl
       rw [if_neg (by simp [Region.wanted, yielded, e6])]
       exact hK _ undef _ rfl ⟨hB, hz, s0, s1, V.step 7 rfl⟩
     · intro L v W2 hd hn ⟨hB, hz, s0, s1, V⟩ K hK
       have e7 := V.at (zdq hd 7 rfl) rfl
       have e6 := V.at (zdq hd 6 rfl) rfl
       rw [if_neg (by simp [Region.wanted, yielded, e6])]
       exact hK _ undef _ rfl ⟨hB, hz, s0, s1, V.step 8 rfl⟩
     · intro L v W2 hd hn ⟨hB, hz, s0, s1, V⟩ K hK
       have e6 := V.at (zdq hd 6 rfl) rfl
       rw [if_neg (by simp [Region.wanted, yielded, e6])]
       exact hK _ undef _ rfl ⟨hB, hz, s0, s1, V.step 9 rfl⟩
     · intro L v W2 hd hn ⟨hB, hz, s0, s1, V⟩ K hK
       have e9 := V.at (zdq hd 9 rfl) rfl
       have e6 := V.at (zdq hd 6 rfl) rfl
       rw [if_neg (by simp [Region.wanted, yielded, e6])]
       exact hK _ undef _ rfl ⟨hB, hz, s0, s1, V.step 10 rfl⟩
     · intro L v W2 hd hn ⟨hB, hz, s0, s1, V⟩ K hK
       have e8 := V.at (zdq hd 8 rfl) rfl
       have e10 := V.at (zdq hd 10 rfl) rfl
       have e6 := V.at (zdq hd 6 rfl) rfl
       rw [if_neg (by simp [Region.wanted, yielded, e6])]
       exact hK _ undef _ rfl ⟨hB, hz, s0, s1, V.step 11 rfl⟩
     · intro L v W2 hd hn ⟨hB, hz, s0, s1, V⟩ K hK
       have e11 := V.at (zdq hd 11 rfl) rfl
       have e6 := V.at (zdq hd 6 rfl) rfl
       rw [if_neg (by simp [Region.wanted, yielded, e6])]
       exact hK _ undef _ rfl ⟨hB, hz, s0, s1, V.step 12 rfl⟩
     · intro L v W2 hd hn ⟨hB, hz, s0, s1, V⟩ K hK
       have e6 := V.at (zdq hd 6 rfl) rfl
       have e12 := V.at (zdq hd 12 rfl) rfl
       rw [if_pos (by simp [Region.wanted])]
       go_wp2_with fail
       exact hK _ (.bool false) _ (by simp only [Act.put, pA, pB, pC, e6, e12]) ⟨hB, hz, s0, s1, V.step 13 rfl⟩
     · intro L v W2 hd hn ⟨hB, hz, s0, s1, V⟩ K hK
       have e13 := V.at (zdq hd 13 rfl) rfl
       rw [if_pos (by simp [Region.wanted])]
       go_wp2_with fail
       exact hK _ (.bool false) _ (by simp only [Act.put, pA, pB, pC, e13]) ⟨hB, hz, s0, s1, V.step 14 rfl⟩
   · intro L v W2 hL ⟨hB, hz, s0, s1, V⟩
     have e0 := V.at (hL 0 (by decide)) rfl
     have e1 := V.at (hL 1 (by decide)) rfl
     have e2 := V.at (hL 2 (by decide)) rfl
     have e3 := V.at (hL 3 (by decide)) rfl
     have e4 := V.at (hL 4 (by decide)) rfl
     have e5 := V.at (hL 5 (by decide)) rfl
     have e6 := V.at (hL 6 (by decide)) rfl
     have e7 := V.at (hL 7 (by decide)) rfl
     have e8 := V.at (hL 8 (by decide)) rfl
     have e9 := V.at (hL 9 (by decide)) rfl
     have e10 := V.at (hL 10 (by decide)) rfl
     have e11 := V.at (hL 11 (by decide)) rfl
     have e12 := V.at (hL 12 (by decide)) rfl
     have e13 := V.at (hL 13 (by decide)) rfl
     have e14 := V.at (hL 14 (by decide)) rfl
     clear hL V
     simp only [Exit.then, e0, e1, e2, e3, e4, e5, e6, e7, e8, e9, e10, e11, e12, e13, e14]
     clear e0 e1 e2 e3 e4 e5 e6 e7 e8 e9 e10 e11 e12 e13 e14
     replace B0 := s0
     clear s0
     replace B1 := s1
     clear s1
     replace hb := hB
     clear hB
     clear hbase hz lt_B0 lt_B1
     rcases qcC_split p a b false with ⟨c, hc, hc0⟩ | ⟨hc, hrr, m, rfl, hpr, la, lb, hd⟩
     · have HV := Lib.hid (dqV_c (p := p) (a := a) (b := b) (n := n) (c := c) (by rw [← HR.out]; exact hc) hc0)
       have HC := Lib.hid (show ∀ W, Calls Try.prog _ _ W _ from fun W => hc ▸ HCQ.out false W)
       have hcb : (c != 0) = true := by simp [hc0]
       clear hc hc0
       go_upto_region 4 with (first | (refine zla (.tmp 5) B0 Try.underlying26 Try.size26 ?_) | (refine zla (.tmp 6) B1 Try.underlying26 Try.size26 ?_) | (go_at_call 70; refine (HC.out _).mono ?_; rintro e W3 ⟨rfl, hW3⟩; replace B0 := B0.zw hW3; replace B1 := B1.zw hW3; replace hb := (hb).trans (hW3.mono (hb).size)))
       go_wp2_with fail
       go_ret2
       exact ⟨_, w.heap.size, w.heap.size, by rw [HV.out]; rfl, Nat.le_refl _, by rw [HV.out]; exact Seg.nil _ none 0 (Nat.le_refl _) hb.size, hb⟩
     · cases hrr
end Go.Proofs.Ytgcajgmokcmcgaa
end
section
namespace Go.Proofs.Ytgcajgmokcmcgaa
open Go Go.RowKit
set_option linter.unusedVariables false
theorem blk_grownE {w w' : World} {b n : Nat} {t : TypeId} {f : Nat → Nat} (h : Blk w b n t f) {base : Nat} {e : TypeId} {size : Nat} {v : Value} {cs : List (List Value)} (ho : SlL w base e size v cs) (hg : w.grownBy w' v.ownBlock) (hne : t ≠ e) : Blk w' b n t f := by
 have hl := h.lt
 unfold Blk at *
 rw [hg.block b hl (fun x => by
  obtain ⟨cur, hc⟩ := ho.ownCells b x.symm
  rw [h] at hc
  injection hc with hc
  injection hc with _ hc
  exact hne hc)]
 exact h
theorem slL_rowE {w : World} {base k n : Nat} {e t : TypeId} {size : Nat} {v : Value} {cs : List (List Value)} {f : Nat → Nat} (h : SlL w base e size v cs) (hb : Blk w k n t f) (hne : t ≠ e) (xs : Array Value) : SlL (w.setRow k xs) base e size v cs := by
 refine slL_apart h (row := some k) ⟨rfl, rfl, rfl, by simp [World.setRow], fun j _ hj => setRow_other _ _ _ _ (fun e => hj (by rw [e]))⟩ ?_
 cases hv : v.ownBlock with
 | none => exact .inl rfl
 | some j =>
  right
  intro he
  cases he
  obtain ⟨cur, hc⟩ := h.ownCells k hv
  unfold Blk at hb
  rw [hb] at hc
  injection hc with hc
  injection hc with _ hc
  exact hne hc
end Go.Proofs.Ytgcajgmokcmcgaa
end
section
namespace Go.Proofs.Ytgcajgmokcmcgaa
open Go Go.RowKit
set_option linter.unusedVariables false
set_option linter.unusedSimpArgs false
theorem dqB_no {a b : Nat → Nat} {n : Int} (h : ¬ (0 ≤ n ∧ n ≤ 40 ∧ deg a ≤ 62 ∧ deg b ≤ 62)) : dqB a b n = false := by unfold dqB; exact decide_eq_false h
theorem dqB_yes {a b : Nat → Nat} {n : Int} (h : 0 ≤ n ∧ n ≤ 40 ∧ deg a ≤ 62 ∧ deg b ≤ 62) : dqB a b n = true := by unfold dqB; exact decide_eq_true h
theorem dqL_nil (p : Nat) (a b : Nat → Nat) : dqL p a b 0 = [] := rfl
attribute [local irreducible] deg icl dqN dqR dqD dqI resP quoP prd dqL dqV qcC dqB ilZ
set_option maxRecDepth 100000 in
set_option maxHeartbeats 3200000 in
theorem spec_DigitsOfQuotient_any (p : Int) (a b : Nat → Nat) (n : Int) (ha : byte a) (hbb : byte b) (w : World) :
 Calls Try.prog 18 #[.int .i64 p, .agg (zb 64 a), .agg (zb 64 b), .int .i64 n] w (SgF (dqV p a b n).1 (dqV p a b n).2 w) := by
 have HCQ := Lib.hid (fun W => l10Code_any p a b ha hbb W)
 obtain ⟨da, hda⟩ : ∃ x, x = deg a := ⟨_, rfl⟩
 obtain ⟨db, hdb⟩ : ∃ x, x = deg b := ⟨_, rfl⟩
 have HDA := Lib.hid (fun W => hda ▸ l01Deg_any a W)
 have HDB := Lib.hid (fun W => hdb ▸ l01Deg_any b W)
 have HAa := Lib.hid hda
 have HBb := Lib.hid hdb
 clear hda hdb
 go_enter Try.func18, Try.ntmps18
 go_upto_region 1 with (fail)
 obtain ⟨W1, hwo⟩ : ∃ v : World, v = ((w.alloc (.cells (zb 64 (a)) 26)).alloc (.cells (zb 64 (b)) 26)) := ⟨_, rfl⟩
 have B0 : Blk W1 (w.heap.size) 64 26 (a) := by subst hwo; have := ((Blk.new w 64 26 (a)).alloc (.cells (zb 64 (b)) 26)); simpa using this
 have B1 : Blk W1 (w.heap.size + 1) 64 26 (b) := by subst hwo; have := (Blk.new (w.alloc (.cells (zb 64 (a)) 26)) 64 26 (b)); simpa using this
 have hb : Below w.heap.size w W1 := by subst hwo; exact (((Below.refl _ _).alloc (Nat.le_refl _) _).alloc (by simp) _)
 rw [← hwo]
 clear hwo
 rcases codeL_two p [a, b] with hc | hc
 · by_cases hz : deg b < 0
   · have HC := Lib.hid (show ∀ W, Calls Try.prog _ _ W _ from fun W => (qcC_5 (r := true) hc rfl hz) ▸ HCQ.out W)
     have HHC := Lib.hid hc
     have HHZ := Lib.hid hz
     by_cases hr : 0 ≤ n ∧ n ≤ 40 ∧ da ≤ 62 ∧ db ≤ 62
     · have hrb : dqB a b n = true := dqB_yes (by rw [← HAa.out, ← HBb.out]; exact hr)
       have h1 : ¬ da > 62 := by omega
       have h2 : ¬ db > 62 := by omega
       have h3 : ¬ 62 < da := by omega
       have h4 : ¬ 62 < db := by omega
       have HG1 := Lib.hid (show decide (62 < da) = false from decide_eq_false h3)
       have HG2 := Lib.hid (show decide (62 < db) = false from decide_eq_false h4)
       have HV := Lib.hid (dqV_c (n := n) (qcC_5 (r := dqB a b n) hc hrb hz) (by decide))
       clear hc hz hrb
       go_upto_region 2 with (first | (refine zla (.tmp 5) B0 Try.underlying26 Try.size26 ?_) | (refine zla (.tmp 6) B1 Try.underlying26 Try.size26 ?_) | (go_at_call 62; refine (HC.out _).mono ?_; rintro e W2 ⟨rfl, hW2⟩; replace B0 := B0.zw hW2; replace B1 := B1.zw hW2; replace hb := (hb).trans (hW2.mono (hb).size)))
       go_wp2_with (first | (rw [HG1.out]) | (rw [HG2.out]) | (refine zlg rfl 26 (.tmp 5) rfl _ rfl 64 26 _ B0 _ Try.underlying26 rfl Try.size26 ?_) | (refine zla (.tmp 5) B0 Try.underlying26 Try.size26 ?_) | (refine zlg rfl 26 (.tmp 6) rfl _ rfl 64 26 _ B1 _ Try.underlying26 rfl Try.size26 ?_) | (refine zla (.tmp 6) B1 Try.underlying26 Try.size26 ?_) | (go_at_call 63; with_reducible refine (HDA.out _).mono ?_; rintro e W8 ⟨rfl, h8⟩; replace B0 := B0.zw h8; replace B1 := B1.zw h8; replace hb := hb.trans (h8.mono hb.size)) | (go_at_call 63; with_reducible refine (HDB.out _).mono ?_; rintro e W7 ⟨rfl, h7⟩; replace B0 := B0.zw h7; replace B1 := B1.zw h7; replace hb := hb.trans (h7.mono hb.size)) | (go_at_call 64; refine (l01In_yes n 0 40 (by omega) _).mono ?_; rintro e wS ⟨rfl, rfl⟩))
       go_ret2
       exact ⟨_, w.heap.size, w.heap.size, by rw [HV.out]; rfl, Nat.le_refl _, by rw [HV.out]; exact Seg.nil _ none 0 (Nat.le_refl _) hb.size, hb⟩
     · have HV := Lib.hid (dqV_c (n := n) (qcC_2 (r := dqB a b n) hc (dqB_no (by rw [← HAa.out, ← HBb.out]; exact hr))) (by decide))
       clear hc hz
       go_upto_region 2 with (first | (refine zla (.tmp 5) B0 Try.underlying26 Try.size26 ?_) | (refine zla (.tmp 6) B1 Try.underlying26 Try.size26 ?_) | (go_at_call 62; refine (HC.out _).mono ?_; rintro e W2 ⟨rfl, hW2⟩; replace B0 := B0.zw hW2; replace B1 := B1.zw hW2; replace hb := (hb).trans (hW2.mono (hb).size)))
       by_cases h1 : 62 < da
       · have h1b : da > 62 := h1
         have HG1 := Lib.hid (show decide (62 < da) = true from decide_eq_true h1)
         go_wp2_with (first | (rw [HG1.out]) | (rw [HG2.out]) | (refine zlg rfl 26 (.tmp 5) rfl _ rfl 64 26 _ B0 _ Try.underlying26 rfl Try.size26 ?_) | (refine zla (.tmp 5) B0 Try.underlying26 Try.size26 ?_) | (refine zlg rfl 26 (.tmp 6) rfl _ rfl 64 26 _ B1 _ Try.underlying26 rfl Try.size26 ?_) | (refine zla (.tmp 6) B1 Try.underlying26 Try.size26 ?_) | (go_at_call 63; with_reducible refine (HDA.out _).mono ?_; rintro e W8 ⟨rfl, h8⟩; replace B0 := B0.zw h8; replace B1 := B1.zw h8; replace hb := hb.trans (h8.mono hb.size)) | (go_at_call 63; with_reducible refine (HDB.out _).mono ?_; rintro e W7 ⟨rfl, h7⟩; replace B0 := B0.zw h7; replace B1 := B1.zw h7; replace hb := hb.trans (h7.mono hb.size)) | (go_at_call 64; refine (l01In_no n 0 40 (by omega) _).mono ?_; rintro e wS ⟨rfl, rfl⟩))
         go_ret2
         exact ⟨_, w.heap.size, w.heap.size, by rw [HV.out]; rfl, Nat.le_refl _, by rw [HV.out]; exact Seg.nil _ none 0 (Nat.le_refl _) hb.size, hb⟩
       · have h1b : ¬ da > 62 := h1
         have HG1 := Lib.hid (show decide (62 < da) = false from decide_eq_false h1)
         by_cases h2 : 62 < db
         · have h2b : db > 62 := h2
           have HG2 := Lib.hid (show decide (62 < db) = true from decide_eq_true h2)
           go_wp2_with (first | (rw [HG1.out]) | (rw [HG2.out]) | (refine zlg rfl 26 (.tmp 5) rfl _ rfl 64 26 _ B0 _ Try.underlying26 rfl Try.size26 ?_) | (refine zla (.tmp 5) B0 Try.underlying26 Try.size26 ?_) | (refine zlg rfl 26 (.tmp 6) rfl _ rfl 64 26 _ B1 _ Try.underlying26 rfl Try.size26 ?_) | (refine zla (.tmp 6) B1 Try.underlying26 Try.size26 ?_) | (go_at_call 63; with_reducible refine (HDA.out _).mono ?_; rintro e W8 ⟨rfl, h8⟩; replace B0 := B0.zw h8; replace B1 := B1.zw h8; replace hb := hb.trans (h8.mono hb.size)) | (go_at_call 63; with_reducible refine (HDB.out _).mono ?_; rintro e W7 ⟨rfl, h7⟩; replace B0 := B0.zw h7; replace B1 := B1.zw h7; replace hb := hb.trans (h7.mono hb.size)) | (go_at_call 64; refine (l01In_no n 0 40 (by omega) _).mono ?_; rintro e wS ⟨rfl, rfl⟩))
           go_ret2
           exact ⟨_, w.heap.size, w.heap.size, by rw [HV.out]; rfl, Nat.le_refl _, by rw [HV.out]; exact Seg.nil _ none 0 (Nat.le_refl _) hb.size, hb⟩
         · have h2b : ¬ db > 62 := h2
           have HG2 := Lib.hid (show decide (62 < db) = false from decide_eq_false h2)
           have hnn : ¬ (0 ≤ n ∧ n ≤ 40) := fun h => hr ⟨h.1, h.2, by omega, by omega⟩
           go_wp2_with (first | (rw [HG1.out]) | (rw [HG2.out]) | (refine zlg rfl 26 (.tmp 5) rfl _ rfl 64 26 _ B0 _ Try.underlying26 rfl Try.size26 ?_) | (refine zla (.tmp 5) B0 Try.underlying26 Try.size26 ?_) | (refine zlg rfl 26 (.tmp 6) rfl _ rfl 64 26 _ B1 _ Try.underlying26 rfl Try.size26 ?_) | (refine zla (.tmp 6) B1 Try.underlying26 Try.size26 ?_) | (go_at_call 63; with_reducible refine (HDA.out _).mono ?_; rintro e W8 ⟨rfl, h8⟩; replace B0 := B0.zw h8; replace B1 := B1.zw h8; replace hb := hb.trans (h8.mono hb.size)) | (go_at_call 63; with_reducible refine (HDB.out _).mono ?_; rintro e W7 ⟨rfl, h7⟩; replace B0 := B0.zw h7; replace B1 := B1.zw h7; replace hb := hb.trans (h7.mono hb.size)) | (go_at_call 64; refine (l01In_no n 0 40 (by omega) _).mono ?_; rintro e wS ⟨rfl, rfl⟩))
           go_ret2
           exact ⟨_, w.heap.size, w.heap.size, by rw [HV.out]; rfl, Nat.le_refl _, by rw [HV.out]; exact Seg.nil _ none 0 (Nat.le_refl _) hb.size, hb⟩
   · have HC := Lib.hid (show ∀ W, Calls Try.prog _ _ W _ from fun W => (qcC_0 (r := true) hc rfl hz) ▸ HCQ.out W)
     have HHC := Lib.hid hc
     have HHZ := Lib.hid hz
     by_cases hr : 0 ≤ n ∧ n ≤ 40 ∧ da ≤ 62 ∧ db ≤ 62
     · have hrb : dqB a b n = true := dqB_yes (by rw [← HAa.out, ← HBb.out]; exact hr)
       have h1 : ¬ da > 62 := by omega
       have h2 : ¬ db > 62 := by omega
       have h3 : ¬ 62 < da := by omega
       have h4 : ¬ 62 < db := by omega
       have HG1 := Lib.hid (show decide (62 < da) = false from decide_eq_false h3)
       have HG2 := Lib.hid (show decide (62 < db) = false from decide_eq_false h4)
       obtain ⟨m, hm, m2, m7⟩ := okP_nat (codeL_zero hc).1
       subst hm
       have la : ∀ k, k < 64 → a k < m := lt_of_code hc (by simp)
       have lb : ∀ k, k < 64 → b k < m := lt_of_code hc (by simp)
       have hpr := prime_of hc
       obtain ⟨q, rfl⟩ : ∃ q : Nat, n = (q : Int) := ⟨n.toNat, by omega⟩
       have HV := Lib.hid (dqV_0 (p := m) (a := a) (b := b) (n := q) (qcC_0 (r := dqB a b (q : Int)) hc hrb hz))
       have hdb0 : 0 ≤ deg b := by omega
       have hdb2 : deg b ≤ 62 := by rw [← HBb.out]; exact hr.2.2.2
       have hq40 : q ≤ 40 := by omega
       have HM := Lib.hid (fun W => l01Mod_any m a b W hpr la lb hdb0)
       have HRL := Lib.hid (fun k => (dqR_deg hpr la lb hdb0 k).2)
       have HTM := Lib.hid (fun k W => show Calls Try.prog 66 #[.int .i64 (m : Int), .agg (zb 64 (dqR m a b k)), .agg (zb 64 TP)] W fun e w' => e = .returned (.tuple #[.agg (zb 64 (dqN m a b k)), .bool true]) ∧ Below W.heap.size W w' from by
        have h := l01Times_any m (dqR m a b k) TP W (by omega) (by omega) (HRL.out k) (fun k _ => TP_lt (by omega) k)
        have hdg := (dqR_deg hpr la lb hdb0 k).1
        have hT := TP_le
        rw [show tmV m (dqR m a b k) TP = (prd m (dqR m a b k) TP, true) from if_pos (by omega), prd_com (by omega)] at h
        unfold dqN
        exact h)
       have HQR := Lib.hid (fun k W => show Calls Try.prog 68 #[.int .i64 (m : Int), .agg (zb 64 (dqN m a b k)), .agg (zb 64 b)] W fun e w' => e = .returned (.tuple #[.agg (zb 64 (quoP m (dqN m a b k) b)), .agg (zb 64 (dqR m a b (k + 1)))]) ∧ Below W.heap.size W w' from by rw [dqR_next]; exact l01Divide_any m (dqN m a b k) b W hpr (fun i _ => dqN_lt (by omega) a b k i) lb hdb0)
       have HDL := Lib.hid (fun k => show quoP m (dqN m a b k) b 0 = dqD m a b k ∧ dqD m a b k < 8 from ⟨by unfold dqD; rfl, by have := dqD_lt (p := m) (by omega) a b k; omega⟩)
       have HR0 := Lib.hid (show resP m a b = dqR m a b 0 by unfold dqR; rfl)
       clear hc hz hrb la lb hdb0 hdb2 hpr
       go_upto_region 2 with (first | (refine zla (.tmp 5) B0 Try.underlying26 Try.size26 ?_) | (refine zla (.tmp 6) B1 Try.underlying26 Try.size26 ?_) | (go_at_call 62; refine (HC.out _).mono ?_; rintro e W2 ⟨rfl, hW2⟩; replace B0 := B0.zw hW2; replace B1 := B1.zw hW2; replace hb := (hb).trans (hW2.mono (hb).size)))
       go_upto_region 6 with (first | (rw [HG1.out]) | (rw [HG2.out]) | (refine zlg rfl 26 (.tmp 5) rfl _ rfl 64 26 _ B0 _ Try.underlying26 rfl Try.size26 ?_) | (refine zla (.tmp 5) B0 Try.underlying26 Try.size26 ?_) | (refine zlg rfl 26 (.tmp 6) rfl _ rfl 64 26 _ B1 _ Try.underlying26 rfl Try.size26 ?_) | (refine zla (.tmp 6) B1 Try.underlying26 Try.size26 ?_) | (go_at_call 63; with_reducible refine (HDA.out _).mono ?_; rintro e W8 ⟨rfl, h8⟩; replace B0 := B0.zw h8; replace B1 := B1.zw h8; replace hb := hb.trans (h8.mono hb.size)) | (go_at_call 63; with_reducible refine (HDB.out _).mono ?_; rintro e W7 ⟨rfl, h7⟩; replace B0 := B0.zw h7; replace B1 := B1.zw h7; replace hb := hb.trans (h7.mono hb.size)) | (go_at_call 64; refine (l01In_yes (q : Int) 0 40 (by omega) _).mono ?_; rintro e wS ⟨rfl, rfl⟩))
       clear hr h1 h2 h3 h4
       have hS0 := slL_empty W7 2 1 hb.size
       have hbW := hb.size
       replace hb := hb.alloc (o := .cells #[] 2) hb.size
       replace B0 := B0.alloc (.cells #[] 2)
       replace B1 := B1.alloc (.cells #[] 2)
       rw [← ilZ_nil, ← dqL_nil m a b] at hS0
       go_upto_region 7 with (first | rw [← z64] | (refine zla (.tmp 5) B0 Try.underlying26 Try.size26 ?_) | (refine zla (.tmp 6) B1 Try.underlying26 Try.size26 ?_) | (go_at_call 65; refine (HM.out _).mono ?_; rintro e W5 ⟨rfl, h5⟩; rw [HR0.out]; have hN6 := B1.lt; have hN7 := h5.size; replace B0 := B0.zw h5; replace B1 := B1.zw h5; replace hS0 := hS0.zw h5; replace hb := hb.trans (h5.mono hb.size)) | (refine wpList_store_blk rfl 26 (.tmp 12) (.tmp 45) rfl _ 64 (dqR m a b 0) rfl rfl 26 _ (Blk.new W5 64 26 (fun _ => 0)) Try.size26 ?_; try simp only [Act.put]; go_upto_region 7 with (fail)))
       have lt_B0 := B0.lt
       have lt_B1 := B1.lt
       have lhb := hb.size
       have T := hS0.top
       obtain ⟨W6, hwo⟩ : ∃ v : World, v = ((W5.alloc (.cells (zb 64 (fun _ => 0)) 26)).setRow W5.heap.size (zb 64 (dqR m a b 0))) := ⟨_, rfl⟩
       have qB2 : Blk W6 W5.heap.size 64 26 (dqR m a b 0) := by subst hwo; exact (Blk.new W5 64 26 (fun _ => 0)).row _
       have qB0 : Blk W6 (w.heap.size) 64 26 (a) := by subst hwo; exact (B0.alloc _).rowOther (by omega)
       have qB1 : Blk W6 (w.heap.size + 1) 64 26 (b) := by subst hwo; exact (B1.alloc _).rowOther (by omega)
       have qS := ((T.alloc (.cells (zb 64 (fun _ => 0)) 26)).rowOther (k := W5.heap.size) (xs := zb 64 (dqR m a b 0)) (.inr (Nat.le_refl _))).1
       rw [← hwo] at qS
       have qhb : Below w.heap.size w W6 := by subst hwo; exact zr (hb.alloc hb.size _) hb.size _
       rw [← hwo]
       clear hwo B0 B1 T hb h5 hS0 hN6 hN7
       obtain ⟨N, hN⟩ : ∃ n, n = W5.heap.size := ⟨_, rfl⟩
       rw [← hN] at qB2 lt_B0 lt_B1 lhb ⊢
       clear hN
       go_wp2_with fail
       go_loopw [11, 3] (fun s x wr => ∃ (j r : Nat) (lst : Value), lst = s ∧ j + r = q ∧ x = .int .i64 (r : Int) ∧ Below w.heap.size w wr ∧ Blk wr (w.heap.size) 64 26 (a) ∧ Blk wr (w.heap.size + 1) 64 26 (b) ∧ Blk wr N 64 26 (dqR m a b j) ∧ SlL wr w.heap.size 2 1 lst (ilZ (dqL m a b j))) (fun _ x _ => (intOf x).toNat)
       case atStart => exact ⟨0, q, _, rfl, by omega, rfl, qhb, qB0, qB1, qB2, qS⟩
       case round =>
        clear qhb qB0 qB1 qB2 qS
        obtain ⟨j, r, lst, rfl, hjr, rfl, hb, B0, B1, B2, hS⟩ := hrel
        by_cases hr0 : 0 < r
        · have hrl : (r : Int) > 0 := by omega
          have hrl2 : 0 < (r : Int) := by omega
          have HT := Lib.hid (fun W => HTM.out j W)
          have HQ := Lib.hid (fun W => HQR.out j W)
          have HD0 := Lib.hid (HDL.out j)
          have HSN := Lib.hid (dqL_snoc m a b j)
          obtain ⟨R, hR⟩ : ∃ R, R = dqR m a b j := ⟨_, rfl⟩
          obtain ⟨R2, hR2⟩ : ∃ R, R = dqR m a b (j + 1) := ⟨_, rfl⟩
          obtain ⟨Nn, hN⟩ : ∃ N, N = dqN m a b j := ⟨_, rfl⟩
          obtain ⟨Q, hQ⟩ : ∃ Q, Q = quoP m Nn b := ⟨_, rfl⟩
          rw [← hR, ← hN] at HT
          rw [← hN, ← hR2, ← hQ] at HQ
          rw [← hN, ← hQ] at HD0
          rw [← hR] at B2
          have HR2 := Lib.hid hR2
          obtain ⟨dv, hv⟩ : ∃ dv, dv = dqD m a b j := ⟨_, rfl⟩
          rw [← hv] at HD0 HSN
          obtain ⟨M, hM⟩ : ∃ M, M = dqL m a b j := ⟨_, rfl⟩
          have hMl : M.length ≤ 40 := by rw [hM, dqL_len]; omega
          rw [← hM] at HSN hS
          clear hR hR2 hN hQ HTM HQR HDL hv hM
          have T := hS.top
          clear hS
          go_upto_region 9 with (fail)
          have lt_B0 : (w.heap.size) < wr.heap.size := B0.lt
          have lt_B1 : (w.heap.size + 1) < wr.heap.size := B1.lt
          have lt_B2 : (N) < wr.heap.size := B2.lt
          have lt_T : (w.heap.size) ≤ wr.heap.size := T.lt
          refine zq Try.mixed (by kernel_rfl) (by kernel_rfl) (fun v => by (simp only [frL, Act.put, pA, pB, pC, Nat.reduceAdd, Nat.zero_add]; exact rfl))
           (fun L v W3 => Below wr.heap.size wr W3 ∧ (L 7 = true → AF (v 7) W3 wr.heap.size 64 26) ∧ (L 8 = true → PF (v 7) W3 wr.heap.size 64 26 (Nn)) ∧ VF L v [some (.int .i64 (m : Int)), some (.agg (zb 64 (R))), some (.agg (zb 64 (TP))), some (.tuple #[(.agg (zb 64 (Nn))), (.bool true)]), some (.tuple #[(.agg (zb 64 (Nn))), (.bool true)]), some (.agg (zb 64 (Nn))), some (.bool true), none, none, some (.bool true)]) ?_ ?_ ?_
          · intro v hv0
            exact ⟨(Below.refl _ wr).drew, (fun h => by cases h), (fun h => by cases h), VF.start⟩
          · refine (.cons rfl ?_ (.cons rfl ?_ (.cons rfl ?_ (.cons rfl ?_ (.cons rfl ?_ (.cons rfl ?_ (.cons rfl ?_ (.cons rfl ?_ (.cons rfl ?_ (.cons rfl ?_ (.nil _)))))))))))
            all_goals intro L v W3 hd hn ⟨hY, h7, h8, V⟩ K hK
            · go_wp2_with fail
              exact hK _ (.int .i64 (m : Int)) _ (by simp only [Act.put, pA, pB, pC ]) ⟨hY, h7, h8, V.step 0 rfl⟩
            · refine zlc (B2.zw hY) Try.underlying26 Try.size26 ?_
              exact hK _ _ _ rfl ⟨hY, h7, h8, V.step 1 rfl⟩
            · go_wp2_with (go_at_call 67; refine (l01T_any _).mono ?_; rintro e wy ⟨rfl, hy⟩)
              exact hK _ (.agg (zb 64 (TP))) _ (by simp only [Act.put, pA, pB, pC ]) ⟨hY.trans (hy.mono hY.size), (fun h => (h7 h).below hy), (fun h => (h8 h).below hy), V.step 2 rfl⟩
            · have e0 := V.at (zdq hd 0 rfl) rfl
              have e1 := V.at (zdq hd 1 rfl) rfl
              have e2 := V.at (zdq hd 2 rfl) rfl
              go_wp2_with (go_at_call 66; refine (HT.out _).mono ?_; rintro e wy ⟨rfl, hy⟩)
              exact hK _ (.tuple #[(.agg (zb 64 (Nn))), (.bool true)]) _ (by simp only [Act.put, pA, pB, pC, e0, e1, e2]) ⟨hY.trans (hy.mono hY.size), (fun h => (h7 h).below hy), (fun h => (h8 h).below hy), V.step 3 rfl⟩
            · have e3 := V.at (zdq hd 3 rfl) rfl
              go_wp2_with fail
              exact hK _ (.tuple #[(.agg (zb 64 (Nn))), (.bool true)]) _ (by simp only [Act.put, pA, pB, pC, e3]) ⟨hY, h7, h8, V.step 4 rfl⟩
            · have e4 := V.at (zdq hd 4 rfl) rfl
              go_wp2_with fail
              exact hK _ (.agg (zb 64 (Nn))) _ (by simp only [Act.put, pA, pB, pC, e4]) ⟨hY, h7, h8, V.step 5 rfl⟩
            · have e4 := V.at (zdq hd 4 rfl) rfl
              go_wp2_with fail
              exact hK _ (.bool true) _ (by simp only [Act.put, pA, pB, pC, e4]) ⟨hY, h7, h8, V.step 6 rfl⟩
            · go_wp2_with fail
              rw [← z64]
              exact hK _ (.pointer (some ⟨W3.heap.size, 0, none⟩)) _ (by simp only [Act.put, pA, pB, pC ]) ⟨hY.alloc hY.size _, (fun _ => (PF.new W3 64 26 _ hY.size).af), (fun h => absurd rfl (hn 8 _ rfl h ⟨7, .data⟩ (by simp) rfl)), V.skip 7 rfl⟩
            · have e5 := V.at (zdq hd 5 rfl) rfl
              obtain ⟨gz, b, ea, hN, hk⟩ := (h7 (zdq hd 7 rfl)).out
              refine zsb 26 _ _ rfl b 64 (Nn) ea e5 26 gz hk Try.size26 ?_
              exact hK _ undef _ rfl ⟨zr hY hN _, (fun h => (h7 h).row hk), (fun _ => by rw [show updV v 8 undef 7 = v 7 from rfl, ea]; exact PF.row hk hN _), V.skip 8 rfl⟩
            · have e6 := V.at (zdq hd 6 rfl) rfl
              go_wp2_with fail
              exact hK _ (.bool true) _ (by simp only [Act.put, pA, pB, pC, e6]) ⟨hY, h7, h8, V.step 9 rfl⟩
          · intro L v W3 hL ⟨hY, h7, h8, V⟩
            obtain ⟨k9_7, e7, hNk9_7, hk9_7⟩ := (h8 (hL 8 (by decide))).out
            have e0 := V.at (hL 0 (by decide)) rfl
            have e1 := V.at (hL 1 (by decide)) rfl
            have e2 := V.at (hL 2 (by decide)) rfl
            have e3 := V.at (hL 3 (by decide)) rfl
            have e4 := V.at (hL 4 (by decide)) rfl
            have e5 := V.at (hL 5 (by decide)) rfl
            have e6 := V.at (hL 6 (by decide)) rfl
            have e9 := V.at (hL 9 (by decide)) rfl
            clear hL h7 h8 V
            replace B0 := B0.zw hY
            replace B1 := B1.zw hY
            replace B2 := B2.zw hY
            replace T := T.zw hY
            replace hb := hb.trans (hY.mono hb.size)
            clear hY
            simp only [Exit.then, e7, e0, e1, e2, e3, e4, e5, e6, e9]
            clear e7 e0 e1 e2 e3 e4 e5 e6 e9
            have B4 := hk9_7
            clear hk9_7
            have zk9_7_0 : w.heap.size < k9_7 := by omega
            have zk9_7_1 : w.heap.size + 1 < k9_7 := by omega
            have zk9_7_2 : N < k9_7 := by omega
            have zk9_7_3 : w.heap.size ≤ k9_7 := by omega
            clear lt_B0 lt_B1 lt_B2 lt_T
            have lt_B0 := B0.lt
            have lt_B1 := B1.lt
            have lt_B2 := B2.lt
            have lt_T := T.lt
            have lt_B4 := B4.lt
            go_upto_region 11 with (first | rw [← z64] | (refine zla (.tmp 13) B4 Try.underlying26 Try.size26 ?_) | (refine zla (.tmp 6) B1 Try.underlying26 Try.size26 ?_) | (go_at_call 68; refine (HQ.out _).mono ?_; rintro e W4 ⟨rfl, hW4⟩; replace B0 := B0.zw hW4; replace B1 := B1.zw hW4; replace B2 := B2.zw hW4; replace T := T.zw hW4; replace B4 := B4.zw hW4; replace hb := (hb).trans (hW4.mono (hb).size)) | (refine wpList_store_blk rfl 26 (.tmp 15) (.tmp 62) rfl _ 64 (Q) rfl rfl 26 _ (((Blk.new W4 64 26 (fun _ => 0)).alloc (.cells (zb 64 (fun _ => 0)) 26))) Try.size26 ?_; try simp only [Act.put]) | (refine wpList_store_blk rfl 26 (.tmp 16) (.tmp 63) rfl _ 64 (R2) rfl rfl 26 _ (((show Blk ((W4.alloc (.cells (zb 64 (fun _ => 0)) 26)).alloc (.cells (zb 64 (fun _ => 0)) 26)) (W4.heap.size + 1) 64 26 (fun _ => 0) by have := Blk.new (W4.alloc (.cells (zb 64 (fun _ => 0)) 26)) 64 26 (fun _ => 0); simpa using this).rowOther (by omega))) Try.size26 ?_; try simp only [Act.put]))
            have lt_B0 := B0.lt
            have lt_B1 := B1.lt
            have lt_B2 := B2.lt
            have lt_T := T.lt
            have lt_B4 := B4.lt
            have lhb := hb.size
            obtain ⟨W5, hwo, hzQ⟩ : ∃ v : World, v = ((((W4.alloc (.cells (zb 64 (fun _ => 0)) 26)).alloc (.cells (zb 64 (fun _ => 0)) 26)).setRow (W4.heap.size) (zb 64 (Q))).setRow (W4.heap.size + 1) (zb 64 (R2))) ∧ Blk v (w.heap.size) 64 26 (a) ∧ Blk v (w.heap.size + 1) 64 26 (b) ∧ Blk v (N) 64 26 (R) ∧ SlT v w.heap.size wr.heap.size 2 1 lst (ilZ M) ∧ Blk v (k9_7) 64 26 (Nn) ∧ Blk v (W4.heap.size) 64 26 (Q) ∧ Blk v (W4.heap.size + 1) 64 26 (R2) ∧ Below w.heap.size w v := ⟨_, rfl, ((((B0.alloc (.cells (zb 64 (fun _ => 0)) 26)).alloc (.cells (zb 64 (fun _ => 0)) 26)).rowOther (by omega)).rowOther (by omega)), ((((B1.alloc (.cells (zb 64 (fun _ => 0)) 26)).alloc (.cells (zb 64 (fun _ => 0)) 26)).rowOther (by omega)).rowOther (by omega)), ((((B2.alloc (.cells (zb 64 (fun _ => 0)) 26)).alloc (.cells (zb 64 (fun _ => 0)) 26)).rowOther (by omega)).rowOther (by omega)), ((((T.alloc (.cells (zb 64 (fun _ => 0)) 26)).alloc (.cells (zb 64 (fun _ => 0)) 26)).rowOther (by omega)).rowOther (by omega)), ((((B4.alloc (.cells (zb 64 (fun _ => 0)) 26)).alloc (.cells (zb 64 (fun _ => 0)) 26)).rowOther (by omega)).rowOther (by omega)), ((((Blk.new W4 64 26 (fun _ => 0)).alloc (.cells (zb 64 (fun _ => 0)) 26)).row (Q)).rowOther (by omega)), (((show Blk ((W4.alloc (.cells (zb 64 (fun _ => 0)) 26)).alloc (.cells (zb 64 (fun _ => 0)) 26)) (W4.heap.size + 1) 64 26 (fun _ => 0) by have := Blk.new (W4.alloc (.cells (zb 64 (fun _ => 0)) 26)) 64 26 (fun _ => 0); simpa using this).rowOther (by omega)).row (R2)), (zr (zr ((hb.alloc (by have := hb.size; simp; omega) (.cells (zb 64 (fun _ => 0)) 26)).alloc (by have := hb.size; simp; omega) (.cells (zb 64 (fun _ => 0)) 26)) (by omega) _) (by omega) _)⟩
            rw [← hwo]
            clear hwo B0 B1 B2 B4 T hb
            obtain ⟨B0, B1, B2, T, B4, B5, B6, hb⟩ := hzQ
            obtain ⟨N1, hNN⟩ : ∃ n : Nat, n = W4.heap.size := ⟨_, rfl⟩
            rw [← hNN] at lt_B0 lt_B1 lt_B2 lt_T lt_B4 lhb B5 B6 ⊢
            clear hNN
            have zN1_0 := lt_B0
            have zN1_1 := lt_B1
            have zN1_2 := lt_B2
            have zN1_3 := lt_T
            have zN1_4 := lt_B4
            have zN1 := lhb
            clear lt_B0 lt_B1 lt_B2 lt_T lt_B4 lhb
            try simp only [Act.put, pA, pB, pC]
            have hS3 := T.1
            have cq := B5.cell (i := 0) (by omega)
            rw [HD0.out.1] at cq
            have hd8 := HD0.out.2
            go_upto_region 12 with (first | (refine wpList_buildI rfl 23 _ (dv : Int) rfl 2 Try.underlying23 Try.elemInt rfl ?_; intro wa hps hba; have e0 := B0.zw hba; have e1 := B1.zw hba; have e2 := B2.zw hba; have er := B6.zw hba; have eS := hS3.zw hba; have ehb := hb.trans (hba.mono hb.size)) | (at_builtin; refine wpList_append_sl _ rfl _ _ 23 rfl w.heap.size 2 (.int .i64 0) 1 8 Try.underlying23 Try.infoInt (by rfl) (by decide) lst _ rfl eS W5.heap.size [.int .i64 (dv : Int)] rfl rfl (Row.range hps) (by intro u hu; rw [List.mem_singleton] at hu; subst hu; rfl) (by rw [ilZ_len]; unfold maxLen; omega) (by rw [ilZ_len]; omega) ?_; intro vp wp hSp hg1; have fhb := ehb.grown hg1 ehb.size (fun k e => eS.own k e); replace e0 := blk_grownE e0 eS hg1 (by decide); replace e1 := blk_grownE e1 eS hg1 (by decide); replace e2 := blk_grownE e2 eS hg1 (by decide); replace er := blk_grownE er eS hg1 (by decide)))
            rw [← ilZ_snoc, ← HSN.out] at hSp
            have hS4 := slL_rowE hSp e2 (by decide) (zb 64 R2)
            have l0 := e0.lt
            go_wp2_with (first | (refine zla (.tmp 16) er Try.underlying26 Try.size26 ?_) | (refine wpList_store_blk rfl 26 (.tmp 12) _ rfl _ 64 R2 rfl rfl 26 _ e2 Try.size26 ?_; try simp only [Act.put]; go_wp2_with fail))
            go_roundw
            case rel => exact ⟨j + 1, r - 1, vp, rfl, by omega, by go_num, zr fhb (by omega) _, e0.rowOther (by omega), e1.rowOther (by omega), by rw [← HR2.out]; exact e2.row R2, hS4⟩
            case measure => simp [intOf] <;> omega
        · have hrl : ¬ (r : Int) > 0 := by omega
          have hrl2 : ¬ 0 < (r : Int) := by omega
          obtain rfl : j = q := by omega
          go_wp2_with fail
          have hsg := hS.seg
          go_ret2
          exact ⟨lst, _, _, by rw [HV.out]; rfl, Nat.le_refl _, by rw [HV.out]; exact hsg, hb⟩
     · have HV := Lib.hid (dqV_c (n := n) (qcC_2 (r := dqB a b n) hc (dqB_no (by rw [← HAa.out, ← HBb.out]; exact hr))) (by decide))
       clear hc hz
       go_upto_region 2 with (first | (refine zla (.tmp 5) B0 Try.underlying26 Try.size26 ?_) | (refine zla (.tmp 6) B1 Try.underlying26 Try.size26 ?_) | (go_at_call 62; refine (HC.out _).mono ?_; rintro e W2 ⟨rfl, hW2⟩; replace B0 := B0.zw hW2; replace B1 := B1.zw hW2; replace hb := (hb).trans (hW2.mono (hb).size)))
       by_cases h1 : 62 < da
       · have h1b : da > 62 := h1
         have HG1 := Lib.hid (show decide (62 < da) = true from decide_eq_true h1)
         go_wp2_with (first | (rw [HG1.out]) | (rw [HG2.out]) | (refine zlg rfl 26 (.tmp 5) rfl _ rfl 64 26 _ B0 _ Try.underlying26 rfl Try.size26 ?_) | (refine zla (.tmp 5) B0 Try.underlying26 Try.size26 ?_) | (refine zlg rfl 26 (.tmp 6) rfl _ rfl 64 26 _ B1 _ Try.underlying26 rfl Try.size26 ?_) | (refine zla (.tmp 6) B1 Try.underlying26 Try.size26 ?_) | (go_at_call 63; with_reducible refine (HDA.out _).mono ?_; rintro e W8 ⟨rfl, h8⟩; replace B0 := B0.zw h8; replace B1 := B1.zw h8; replace hb := hb.trans (h8.mono hb.size)) | (go_at_call 63; with_reducible refine (HDB.out _).mono ?_; rintro e W7 ⟨rfl, h7⟩; replace B0 := B0.zw h7; replace B1 := B1.zw h7; replace hb := hb.trans (h7.mono hb.size)) | (go_at_call 64; refine (l01In_no n 0 40 (by omega) _).mono ?_; rintro e wS ⟨rfl, rfl⟩))
         go_ret2
         exact ⟨_, w.heap.size, w.heap.size, by rw [HV.out]; rfl, Nat.le_refl _, by rw [HV.out]; exact Seg.nil _ none 0 (Nat.le_refl _) hb.size, hb⟩
       · have h1b : ¬ da > 62 := h1
         have HG1 := Lib.hid (show decide (62 < da) = false from decide_eq_false h1)
         by_cases h2 : 62 < db
         · have h2b : db > 62 := h2
           have HG2 := Lib.hid (show decide (62 < db) = true from decide_eq_true h2)
           go_wp2_with (first | (rw [HG1.out]) | (rw [HG2.out]) | (refine zlg rfl 26 (.tmp 5) rfl _ rfl 64 26 _ B0 _ Try.underlying26 rfl Try.size26 ?_) | (refine zla (.tmp 5) B0 Try.underlying26 Try.size26 ?_) | (refine zlg rfl 26 (.tmp 6) rfl _ rfl 64 26 _ B1 _ Try.underlying26 rfl Try.size26 ?_) | (refine zla (.tmp 6) B1 Try.underlying26 Try.size26 ?_) | (go_at_call 63; with_reducible refine (HDA.out _).mono ?_; rintro e W8 ⟨rfl, h8⟩; replace B0 := B0.zw h8; replace B1 := B1.zw h8; replace hb := hb.trans (h8.mono hb.size)) | (go_at_call 63; with_reducible refine (HDB.out _).mono ?_; rintro e W7 ⟨rfl, h7⟩; replace B0 := B0.zw h7; replace B1 := B1.zw h7; replace hb := hb.trans (h7.mono hb.size)) | (go_at_call 64; refine (l01In_no n 0 40 (by omega) _).mono ?_; rintro e wS ⟨rfl, rfl⟩))
           go_ret2
           exact ⟨_, w.heap.size, w.heap.size, by rw [HV.out]; rfl, Nat.le_refl _, by rw [HV.out]; exact Seg.nil _ none 0 (Nat.le_refl _) hb.size, hb⟩
         · have h2b : ¬ db > 62 := h2
           have HG2 := Lib.hid (show decide (62 < db) = false from decide_eq_false h2)
           have hnn : ¬ (0 ≤ n ∧ n ≤ 40) := fun h => hr ⟨h.1, h.2, by omega, by omega⟩
           go_wp2_with (first | (rw [HG1.out]) | (rw [HG2.out]) | (refine zlg rfl 26 (.tmp 5) rfl _ rfl 64 26 _ B0 _ Try.underlying26 rfl Try.size26 ?_) | (refine zla (.tmp 5) B0 Try.underlying26 Try.size26 ?_) | (refine zlg rfl 26 (.tmp 6) rfl _ rfl 64 26 _ B1 _ Try.underlying26 rfl Try.size26 ?_) | (refine zla (.tmp 6) B1 Try.underlying26 Try.size26 ?_) | (go_at_call 63; with_reducible refine (HDA.out _).mono ?_; rintro e W8 ⟨rfl, h8⟩; replace B0 := B0.zw h8; replace B1 := B1.zw h8; replace hb := hb.trans (h8.mono hb.size)) | (go_at_call 63; with_reducible refine (HDB.out _).mono ?_; rintro e W7 ⟨rfl, h7⟩; replace B0 := B0.zw h7; replace B1 := B1.zw h7; replace hb := hb.trans (h7.mono hb.size)) | (go_at_call 64; refine (l01In_no n 0 40 (by omega) _).mono ?_; rintro e wS ⟨rfl, rfl⟩))
           go_ret2
           exact ⟨_, w.heap.size, w.heap.size, by rw [HV.out]; rfl, Nat.le_refl _, by rw [HV.out]; exact Seg.nil _ none 0 (Nat.le_refl _) hb.size, hb⟩
 · have HV := Lib.hid (dqV_c (n := n) (qcC_1 (r := dqB a b n) hc) (by decide))
   have HC := Lib.hid (show ∀ W, Calls Try.prog _ _ W _ from fun W => (qcC_1 (r := true) hc) ▸ HCQ.out W)
   clear hc
   go_upto_region 2 with (first | (refine zla (.tmp 5) B0 Try.underlying26 Try.size26 ?_) | (refine zla (.tmp 6) B1 Try.underlying26 Try.size26 ?_) | (go_at_call 62; refine (HC.out _).mono ?_; rintro e W2 ⟨rfl, hW2⟩; replace B0 := B0.zw hW2; replace B1 := B1.zw hW2; replace hb := (hb).trans (hW2.mono (hb).size)))
   go_wp2_with fail
   go_ret2
   exact ⟨_, w.heap.size, w.heap.size, by rw [HV.out]; rfl, Nat.le_refl _, by rw [HV.out]; exact Seg.nil _ none 0 (Nat.le_refl _) hb.size, hb⟩
end Go.Proofs.Ytgcajgmokcmcgaa
end
section
namespace Go.Proofs.Ytgcajgmokcmcgaa
open Go Go.RowKit
/-- a part of a tuple -/
def extL (y : Value) (k : Nat) : Value := match y with
 | .tuple xs => xs.getD k undef
 | _ => undef
end Go.Proofs.Ytgcajgmokcmcgaa
end
section
namespace Go.Proofs.Ytgcajgmokcmcgaa
open Go Go.RowKit
set_option linter.unusedVariables false
set_option linter.unusedSimpArgs false
set_option maxRecDepth 100000 in
set_option maxHeartbeats 3200000 in
theorem FnExactDigitsOfQuotient_walk (p : Int) (f : Nat → Nat) (g : Nat → Nat) (n : Int) (hf : byte f) (hg : byte g) (w : World) :
 Calls Try.prog 3 #[.int .i64 p, .agg (zb 64 f), .agg (zb 64 g), .int .i64 n] w fun e w' => e = .returned (.bool true) ∧ Below w.heap.size w w' := by
 obtain ⟨LL, hLL⟩ : ∃ L, L = (dqV p f g n).1 := ⟨_, rfl⟩
 obtain ⟨cd, hcd⟩ : ∃ c, c = (dqV p f g n).2 := ⟨_, rfl⟩
 have hR : LL.length ≤ 1000 := by rw [hLL]; exact dqV_len p f g n
 have HSP := Lib.hid (fun W => show Calls Try.prog 18 #[.int .i64 p, .agg (zb 64 f), .agg (zb 64 g), .int .i64 n] W (SgF LL cd W) from by rw [hLL, hcd]; exact spec_DigitsOfQuotient_any p f g n hf hg W)
 have HIM := Lib.hid (fun W => show Calls Try.prog 20 #[.int .i64 p, .agg (zb 64 f), .agg (zb 64 g), .int .i64 n] W (SgF LL cd W) from by rw [hLL, hcd]; exact impl_DigitsOfQuotient_any p f g n hf hg W)
 clear hLL hcd
 have hne : (cd != cd) = false := by simp
 obtain ⟨K, hK⟩ : ∃ K, K = 1 + LL.length := ⟨_, rfl⟩
 have hK1 : (K : Int) ≤ 1000000 := by omega
 have hK2 : ((K : Int) != (K : Int)) = false := by simp
 have hK3 : ¬ (K : Int) < 0 := by omega
 have HK := Lib.hid hK
 clear hK
 go_enter Try.func3, Try.ntmps3
 go_upto_region 1 with (fail)
 obtain ⟨W1, hwo⟩ : ∃ v : World, v = ((w.alloc (.cells (zb 64 (f)) 22)).alloc (.cells (zb 64 (g)) 22)) := ⟨_, rfl⟩
 have B0 : Blk W1 (w.heap.size) 64 22 (f) := by subst hwo; have := ((Blk.new w 64 22 (f)).alloc (.cells (zb 64 (g)) 22)); simpa using this
 have B1 : Blk W1 (w.heap.size + 1) 64 22 (g) := by subst hwo; have := (Blk.new (w.alloc (.cells (zb 64 (f)) 22)) 64 22 (g)); simpa using this
 have hb : Below w.heap.size w W1 := by subst hwo; exact (((Below.refl _ _).alloc (Nat.le_refl _) _).alloc (by simp) _)
 rw [← hwo]
 clear hwo
 have hB1 := B1.lt
 have hE1 := hb.size
 refine wp_region_stepsU Try.mixed (by kernel_rfl) (by kernel_rfl) (fun v => by (simp only [frL, Act.put, pA, pB, pC, Nat.reduceAdd, Nat.zero_add]; exact rfl))
  (fun L v wx => Below W1.heap.size W1 wx ∧ VF L v [some (.int .i64 p), some (.agg (zb 64 (f))), some (.agg (zb 64 (f))), some (.agg (zb 64 (g))), some (.agg (zb 64 (g))), some (.int .i64 n), none, none, none, none, none, none] ∧ (L 6 = true → (∃ vl lo hi, (v 6) = .tuple #[vl, .int .i64 cd] ∧ W1.heap.size ≤ lo ∧ Seg wx lo hi vl LL)) ∧ (L 7 = true → L 6 = true ∧ v 7 = (v 6)) ∧ (L 8 = true → L 6 = true ∧ v 8 = (extL (v 6) 0)) ∧ (L 9 = true → L 6 = true ∧ v 9 = (extL (v 6) 1)) ∧ (L 10 = true → L 6 = true ∧ v 10 = (extL (v 6) 0)) ∧ (L 11 = true → L 6 = true ∧ v 11 = (extL (v 6) 1))) ?_ ?_ ?_
 · exact ⟨(Below.refl _ W1).drew, VF.start, (fun h => by cases h), (fun h => by cases h), (fun h => by cases h), (fun h => by cases h), (fun h => by cases h), (fun h => by cases h)⟩
 · refine (.cons rfl ?_ (.cons rfl ?_ (.cons rfl ?_ (.cons rfl ?_ (.cons rfl ?_ (.cons rfl ?_ (.cons rfl ?_ (.cons rfl ?_ (.cons rfl ?_ (.cons rfl ?_ (.cons rfl ?_ (.cons rfl ?_ (.nil _)))))))))))))
   · intro L v wx hd hn hU ⟨hY, V, cL, d7, d8, d9, d10, d11⟩ K hK
     go_wp2_with fail
     exact hK _ (.int .i64 p) _ (by simp only [Act.put, pA, pB, pC]) ⟨hY, V.step 0 rfl, cL, d7, d8, d9, d10, d11⟩
   · intro L v wx hd hn hU ⟨hY, V, cL, d7, d8, d9, d10, d11⟩ K hK
     refine zlc (B0.zw hY) Try.underlying22 Try.size22 ?_
     exact hK _ _ _ rfl ⟨hY, V.step 1 rfl, cL, d7, d8, d9, d10, d11⟩
   · intro L v wx hd hn hU ⟨hY, V, cL, d7, d8, d9, d10, d11⟩ K hK
     have e1 := V.at (zdq hd 1 rfl) rfl
     go_wp2_with (go_at_call 19; refine (toPoly_any f hf _).mono ?_; rintro e wy ⟨rfl, hy⟩)
     exact hK _ (.agg (zb 64 (f))) _ (by simp only [Act.put, pA, pB, pC, e1]) ⟨hY.trans (hy.mono hY.size), V.step 2 rfl, (fun h => let ⟨v1, lo1, hi1, hyE, hl1, S1⟩ := cL h; ⟨v1, lo1, hi1, hyE, hl1, S1.zw hy⟩), d7, d8, d9, d10, d11⟩
   · intro L v wx hd hn hU ⟨hY, V, cL, d7, d8, d9, d10, d11⟩ K hK
     refine zlc (B1.zw hY) Try.underlying22 Try.size22 ?_
     exact hK _ _ _ rfl ⟨hY, V.step 3 rfl, cL, d7, d8, d9, d10, d11⟩
   · intro L v wx hd hn hU ⟨hY, V, cL, d7, d8, d9, d10, d11⟩ K hK
     have e3 := V.at (zdq hd 3 rfl) rfl
     go_wp2_with (go_at_call 19; refine (toPoly_any g hg _).mono ?_; rintro e wy ⟨rfl, hy⟩)
     exact hK _ (.agg (zb 64 (g))) _ (by simp only [Act.put, pA, pB, pC, e3]) ⟨hY.trans (hy.mono hY.size), V.step 4 rfl, (fun h => let ⟨v1, lo1, hi1, hyE, hl1, S1⟩ := cL h; ⟨v1, lo1, hi1, hyE, hl1, S1.zw hy⟩), d7, d8, d9, d10, d11⟩
   · intro L v wx hd hn hU ⟨hY, V, cL, d7, d8, d9, d10, d11⟩ K hK
     go_wp2_with fail
     exact hK _ (.int .i64 n) _ (by simp only [Act.put, pA, pB, pC]) ⟨hY, V.step 5 rfl, cL, d7, d8, d9, d10, d11⟩
   · intro L v wx hd hn hU ⟨hY, V, cL, d7, d8, d9, d10, d11⟩ K hK
     have e0 := V.at (zdq hd 0 rfl) rfl
     have e2 := V.at (zdq hd 2 rfl) rfl
     have e4 := V.at (zdq hd 4 rfl) rfl
     have e5 := V.at (zdq hd 5 rfl) rfl
     have hN0 := hY.size
     go_wp2_with (go_at_call 18; refine (HSP.out _).mono ?_; rintro e wy ⟨vz, loz, hiz, rfl, hl, hS, hy⟩)
     have hnew : (∃ vl lo hi, (Value.tuple #[vz, .int .i64 cd]) = .tuple #[vl, .int .i64 cd] ∧ W1.heap.size ≤ lo ∧ Seg wy lo hi vl LL) := ⟨vz, loz, hiz, rfl, Nat.le_trans hN0 hl, hS⟩
     exact hK _ (.tuple #[vz, .int .i64 cd]) _ (by simp only [Act.put, pA, pB, pC, e0, e2, e4, e5]) ⟨hY.trans (hy.mono hY.size), V.skip 6 rfl, (fun _ => hnew), (fun h => absurd (d7 h).1 (by rw [hU]; decide)), (fun h => absurd (d8 h).1 (by rw [hU]; decide)), (fun h => absurd (d9 h).1 (by rw [hU]; decide)), (fun h => absurd (d10 h).1 (by rw [hU]; decide)), (fun h => absurd (d11 h).1 (by rw [hU]; decide))⟩
   · intro L v wx hd hn hU ⟨hY, V, cL, d7, d8, d9, d10, d11⟩ K hK
     have hl := (zdq hd 6 rfl)
     have ⟨v1, lo1, hi1, hyE, hl1, S1⟩ := cL hl
     have ez : v 6 = (.tuple #[v1, .int .i64 cd]) := hyE
     go_wp2_with fail
     have hnew : L 6 = true ∧ (.tuple #[v1, .int .i64 cd]) = (v 6) := ⟨hl, by rw [hyE]; try rfl⟩
     exact hK _ (.tuple #[v1, .int .i64 cd]) _ (by simp only [Act.put, pA, pB, pC, ez, hyE]; try rfl) ⟨hY, V.skip 7 rfl, cL, (fun _ => hnew), d8, d9, d10, d11⟩
   · intro L v wx hd hn hU ⟨hY, V, cL, d7, d8, d9, d10, d11⟩ K hK
     have hs := d7 (zdq hd 7 rfl)
     have hl := hs.1
     have ⟨v1, lo1, hi1, hyE, hl1, S1⟩ := cL hl
     have ez : v 7 = (.tuple #[v1, .int .i64 cd]) := by rw [hs.2, hyE]; try rfl
     clear hs
     go_wp2_with fail
     have hnew : L 6 = true ∧ v1 = (extL (v 6) 0) := ⟨hl, by rw [hyE]; try rfl⟩
     exact hK _ v1 _ (by simp only [Act.put, pA, pB, pC, ez, hyE]; try rfl) ⟨hY, V.skip 8 rfl, cL, d7, (fun _ => hnew), d9, d10, d11⟩
   · intro L v wx hd hn hU ⟨hY, V, cL, d7, d8, d9, d10, d11⟩ K hK
     have hs := d7 (zdq hd 7 rfl)
     have hl := hs.1
     have ⟨v1, lo1, hi1, hyE, hl1, S1⟩ := cL hl
     have ez : v 7 = (.tuple #[v1, .int .i64 cd]) := by rw [hs.2, hyE]; try rfl
     clear hs
     go_wp2_with fail
     have hnew : L 6 = true ∧ (.int .i64 cd) = (extL (v 6) 1) := ⟨hl, by rw [hyE]; try rfl⟩
     exact hK _ (.int .i64 cd) _ (by simp only [Act.put, pA, pB, pC, ez, hyE]; try rfl) ⟨hY, V.skip 9 rfl, cL, d7, d8, (fun _ => hnew), d10, d11⟩
   · intro L v wx hd hn hU ⟨hY, V, cL, d7, d8, d9, d10, d11⟩ K hK
     have hs := d8 (zdq hd 8 rfl)
     have hl := hs.1
     have ⟨v1, lo1, hi1, hyE, hl1, S1⟩ := cL hl
     have ez : v 8 = v1 := by rw [hs.2, hyE]; try rfl
     clear hs
     go_wp2_with fail
     have hnew : L 6 = true ∧ v1 = (extL (v 6) 0) := ⟨hl, by rw [hyE]; try rfl⟩
     exact hK _ v1 _ (by simp only [Act.put, pA, pB, pC, ez, hyE]; try rfl) ⟨hY, V.skip 10 rfl, cL, d7, d8, d9, (fun _ => hnew), d11⟩
   · intro L v wx hd hn hU ⟨hY, V, cL, d7, d8, d9, d10, d11⟩ K hK
     have hs := d9 (zdq hd 9 rfl)
     have hl := hs.1
     have ⟨v1, lo1, hi1, hyE, hl1, S1⟩ := cL hl
     have ez : v 9 = (.int .i64 cd) := by rw [hs.2, hyE]; try rfl
     clear hs
     go_wp2_with fail
     have hnew : L 6 = true ∧ (.int .i64 cd) = (extL (v 6) 1) := ⟨hl, by rw [hyE]; try rfl⟩
     exact hK _ (.int .i64 cd) _ (by simp only [Act.put, pA, pB, pC, ez, hyE]; try rfl) ⟨hY, V.skip 11 rfl, cL, d7, d8, d9, d10, (fun _ => hnew)⟩
 · intro L v W2 hL ⟨hY, V, cL, d7, d8, d9, d10, d11⟩
   have e0 := V.at (hL 0 (by decide)) rfl
   have e1 := V.at (hL 1 (by decide)) rfl
   have e2 := V.at (hL 2 (by decide)) rfl
   have e3 := V.at (hL 3 (by decide)) rfl
   have e4 := V.at (hL 4 (by decide)) rfl
   have e5 := V.at (hL 5 (by decide)) rfl
   obtain ⟨v1, lo1, hi1, hyE, hl1, S1⟩ := cL (hL 6 (by decide))
   have e6 := hyE
   have e7 : v 7 = (.tuple #[v1, .int .i64 cd]) := by rw [(d7 (hL 7 (by decide))).2, hyE]; try rfl
   have e8 : v 8 = v1 := by rw [(d8 (hL 8 (by decide))).2, hyE]; try rfl
   have e9 : v 9 = (.int .i64 cd) := by rw [(d9 (hL 9 (by decide))).2, hyE]; try rfl
   have e10 : v 10 = v1 := by rw [(d10 (hL 10 (by decide))).2, hyE]; try rfl
   have e11 : v 11 = (.int .i64 cd) := by rw [(d11 (hL 11 (by decide))).2, hyE]; try rfl
   clear hL V cL d7 d8 d9 d10 d11 hyE
   simp only [Exit.then, e0, e1, e2, e3, e4, e5, e6, e7, e8, e9, e10, e11]
   clear e0 e1 e2 e3 e4 e5 e6 e7 e8 e9 e10 e11
   replace B0 := B0.zw hY
   replace B1 := B1.zw hY
   replace hb := hb.trans (hY.mono hb.size)
   clear hY
   replace hB1 := Nat.lt_of_lt_of_le hB1 hl1
   replace hE1 := Nat.le_trans hE1 hl1
   go_upto_region 2 with (fail)
   have hB2 := B1.lt
   have hE2 := hb.size
   have hX2_0 := S1.lt
   refine wp_region_stepsU Try.mixed (by kernel_rfl) (by kernel_rfl) (fun v => by (simp only [frL, Act.put, pA, pB, pC, Nat.reduceAdd, Nat.zero_add]; exact rfl))
    (fun L v wx => Below W2.heap.size W2 wx ∧ VF L v [some (.int .i64 p), some (.agg (zb 64 (f))), some (.agg (zb 64 (f))), some (.agg (zb 64 (g))), some (.agg (zb 64 (g))), some (.int .i64 n), none, none, none, none, none, none] ∧ (L 6 = true → (∃ vl lo hi, (v 6) = .tuple #[vl, .int .i64 cd] ∧ W2.heap.size ≤ lo ∧ Seg wx lo hi vl LL)) ∧ (L 7 = true → L 6 = true ∧ v 7 = (v 6)) ∧ (L 8 = true → L 6 = true ∧ v 8 = (extL (v 6) 0)) ∧ (L 9 = true → L 6 = true ∧ v 9 = (extL (v 6) 1)) ∧ (L 10 = true → L 6 = true ∧ v 10 = (extL (v 6) 0)) ∧ (L 11 = true → L 6 = true ∧ v 11 = (extL (v 6) 1))) ?_ ?_ ?_
   · exact ⟨(Below.refl _ W2).drew, VF.start, (fun h => by cases h), (fun h => by cases h), (fun h => by cases h), (fun h => by cases h), (fun h => by cases h), (fun h => by cases h)⟩
   · refine (.cons rfl ?_ (.cons rfl ?_ (.cons rfl ?_ (.cons rfl ?_ (.cons rfl ?_ (.cons rfl ?_ (.cons rfl ?_ (.cons rfl ?_ (.cons rfl ?_ (.cons rfl ?_ (.cons rfl ?_ (.cons rfl ?_ (.nil _)))))))))))))
     · intro L v wx hd hn hU ⟨hY, V, cL, d7, d8, d9, d10, d11⟩ K hK
       go_wp2_with fail
       exact hK _ (.int .i64 p) _ (by simp only [Act.put, pA, pB, pC]) ⟨hY, V.step 0 rfl, cL, d7, d8, d9, d10, d11⟩
     · intro L v wx hd hn hU ⟨hY, V, cL, d7, d8, d9, d10, d11⟩ K hK
       refine zlc (B0.zw hY) Try.underlying22 Try.size22 ?_
       exact hK _ _ _ rfl ⟨hY, V.step 1 rfl, cL, d7, d8, d9, d10, d11⟩
     · intro L v wx hd hn hU ⟨hY, V, cL, d7, d8, d9, d10, d11⟩ K hK
       have e1 := V.at (zdq hd 1 rfl) rfl
       go_wp2_with (go_at_call 19; refine (toPoly_any f hf _).mono ?_; rintro e wy ⟨rfl, hy⟩)
       exact hK _ (.agg (zb 64 (f))) _ (by simp only [Act.put, pA, pB, pC, e1]) ⟨hY.trans (hy.mono hY.size), V.step 2 rfl, (fun h => let ⟨v2, lo2, hi2, hyE, hl2, S2⟩ := cL h; ⟨v2, lo2, hi2, hyE, hl2, S2.zw hy⟩), d7, d8, d9, d10, d11⟩
     · intro L v wx hd hn hU ⟨hY, V, cL, d7, d8, d9, d10, d11⟩ K hK
       refine zlc (B1.zw hY) Try.underlying22 Try.size22 ?_
       exact hK _ _ _ rfl ⟨hY, V.step 3 rfl, cL, d7, d8, d9, d10, d11⟩
     · intro L v wx hd hn hU ⟨hY, V, cL, d7, d8, d9, d10, d11⟩ K hK
       have e3 := V.at (zdq hd 3 rfl) rfl
       go_wp2_with (go_at_call 19; refine (toPoly_any g hg _).mono ?_; rintro e wy ⟨rfl, hy⟩)
       exact hK _ (.agg (zb 64 (g))) _ (by simp only [Act.put, pA, pB, pC, e3]) ⟨hY.trans (hy.mono hY.size), V.step 4 rfl, (fun h => let ⟨v2, lo2, hi2, hyE, hl2, S2⟩ := cL h; ⟨v2, lo2, hi2, hyE, hl2, S2.zw hy⟩), d7, d8, d9, d10, d11⟩
     · intro L v wx hd hn hU ⟨hY, V, cL, d7, d8, d9, d10, d11⟩ K hK
       go_wp2_with fail
       exact hK _ (.int .i64 n) _ (by simp only [Act.put, pA, pB, pC]) ⟨hY, V.step 5 rfl, cL, d7, d8, d9, d10, d11⟩
     · intro L v wx hd hn hU ⟨hY, V, cL, d7, d8, d9, d10, d11⟩ K hK
       have e0 := V.at (zdq hd 0 rfl) rfl
       have e2 := V.at (zdq hd 2 rfl) rfl
       have e4 := V.at (zdq hd 4 rfl) rfl
       have e5 := V.at (zdq hd 5 rfl) rfl
       have hN0 := hY.size
       go_wp2_with (go_at_call 20; refine (HIM.out _).mono ?_; rintro e wy ⟨vz, loz, hiz, rfl, hl, hS, hy⟩)
       have hnew : (∃ vl lo hi, (Value.tuple #[vz, .int .i64 cd]) = .tuple #[vl, .int .i64 cd] ∧ W2.heap.size ≤ lo ∧ Seg wy lo hi vl LL) := ⟨vz, loz, hiz, rfl, Nat.le_trans hN0 hl, hS⟩
       exact hK _ (.tuple #[vz, .int .i64 cd]) _ (by simp only [Act.put, pA, pB, pC, e0, e2, e4, e5]) ⟨hY.trans (hy.mono hY.size), V.skip 6 rfl, (fun _ => hnew), (fun h => absurd (d7 h).1 (by rw [hU]; decide)), (fun h => absurd (d8 h).1 (by rw [hU]; decide)), (fun h => absurd (d9 h).1 (by rw [hU]; decide)), (fun h => absurd (d10 h).1 (by rw [hU]; decide)), (fun h => absurd (d11 h).1 (by rw [hU]; decide))⟩
     · intro L v wx hd hn hU ⟨hY, V, cL, d7, d8, d9, d10, d11⟩ K hK
       have hl := (zdq hd 6 rfl)
       have ⟨v2, lo2, hi2, hyE, hl2, S2⟩ := cL hl
       have ez : v 6 = (.tuple #[v2, .int .i64 cd]) := hyE
       go_wp2_with fail
       have hnew : L 6 = true ∧ (.tuple #[v2, .int .i64 cd]) = (v 6) := ⟨hl, by rw [hyE]; try rfl⟩
       exact hK _ (.tuple #[v2, .int .i64 cd]) _ (by simp only [Act.put, pA, pB, pC, ez, hyE]; try rfl) ⟨hY, V.skip 7 rfl, cL, (fun _ => hnew), d8, d9, d10, d11⟩
     · intro L v wx hd hn hU ⟨hY, V, cL, d7, d8, d9, d10, d11⟩ K hK
       have hs := d7 (zdq hd 7 rfl)
       have hl := hs.1
       have ⟨v2, lo2, hi2, hyE, hl2, S2⟩ := cL hl
       have ez : v 7 = (.tuple #[v2, .int .i64 cd]) := by rw [hs.2, hyE]; try rfl
       clear hs
       go_wp2_with fail
       have hnew : L 6 = true ∧ v2 = (extL (v 6) 0) := ⟨hl, by rw [hyE]; try rfl⟩
       exact hK _ v2 _ (by simp only [Act.put, pA, pB, pC, ez, hyE]; try rfl) ⟨hY, V.skip 8 rfl, cL, d7, (fun _ => hnew), d9, d10, d11⟩
     · intro L v wx hd hn hU ⟨hY, V, cL, d7, d8, d9, d10, d11⟩ K hK
       have hs := d7 (zdq hd 7 rfl)
       have hl := hs.1
       have ⟨v2, lo2, hi2, hyE, hl2, S2⟩ := cL hl
       have ez : v 7 = (.tuple #[v2, .int .i64 cd]) := by rw [hs.2, hyE]; try rfl
       clear hs
       go_wp2_with fail
       have hnew : L 6 = true ∧ (.int .i64 cd) = (extL (v 6) 1) := ⟨hl, by rw [hyE]; try rfl⟩
       exact hK _ (.int .i64 cd) _ (by simp only [Act.put, pA, pB, pC, ez, hyE]; try rfl) ⟨hY, V.skip 9 rfl, cL, d7, d8, (fun _ => hnew), d10, d11⟩
     · intro L v wx hd hn hU ⟨hY, V, cL, d7, d8, d9, d10, d11⟩ K hK
       have hs := d8 (zdq hd 8 rfl)
       have hl := hs.1
       have ⟨v2, lo2, hi2, hyE, hl2, S2⟩ := cL hl
       have ez : v 8 = v2 := by rw [hs.2, hyE]; try rfl
       clear hs
       go_wp2_with fail
       have hnew : L 6 = true ∧ v2 = (extL (v 6) 0) := ⟨hl, by rw [hyE]; try rfl⟩
       exact hK _ v2 _ (by simp only [Act.put, pA, pB, pC, ez, hyE]; try rfl) ⟨hY, V.skip 10 rfl, cL, d7, d8, d9, (fun _ => hnew), d11⟩
     · intro L v wx hd hn hU ⟨hY, V, cL, d7, d8, d9, d10, d11⟩ K hK
       have hs := d9 (zdq hd 9 rfl)
       have hl := hs.1
       have ⟨v2, lo2, hi2, hyE, hl2, S2⟩ := cL hl
       have ez : v 9 = (.int .i64 cd) := by rw [hs.2, hyE]; try rfl
       clear hs
       go_wp2_with fail
       have hnew : L 6 = true ∧ (.int .i64 cd) = (extL (v 6) 1) := ⟨hl, by rw [hyE]; try rfl⟩
       exact hK _ (.int .i64 cd) _ (by simp only [Act.put, pA, pB, pC, ez, hyE]; try rfl) ⟨hY, V.skip 11 rfl, cL, d7, d8, d9, d10, (fun _ => hnew)⟩
   · intro L v W3 hL ⟨hY, V, cL, d7, d8, d9, d10, d11⟩
     have e0 := V.at (hL 0 (by decide)) rfl
     have e1 := V.at (hL 1 (by decide)) rfl
     have e2 := V.at (hL 2 (by decide)) rfl
     have e3 := V.at (hL 3 (by decide)) rfl
     have e4 := V.at (hL 4 (by decide)) rfl
     have e5 := V.at (hL 5 (by decide)) rfl
     obtain ⟨v2, lo2, hi2, hyE, hl2, S2⟩ := cL (hL 6 (by decide))
     have e6 := hyE
     have e7 : v 7 = (.tuple #[v2, .int .i64 cd]) := by rw [(d7 (hL 7 (by decide))).2, hyE]; try rfl
     have e8 : v 8 = v2 := by rw [(d8 (hL 8 (by decide))).2, hyE]; try rfl
     have e9 : v 9 = (.int .i64 cd) := by rw [(d9 (hL 9 (by decide))).2, hyE]; try rfl
     have e10 : v 10 = v2 := by rw [(d10 (hL 10 (by decide))).2, hyE]; try rfl
     have e11 : v 11 = (.int .i64 cd) := by rw [(d11 (hL 11 (by decide))).2, hyE]; try rfl
     clear hL V cL d7 d8 d9 d10 d11 hyE
     simp only [Exit.then, e0, e1, e2, e3, e4, e5, e6, e7, e8, e9, e10, e11]
     clear e0 e1 e2 e3 e4 e5 e6 e7 e8 e9 e10 e11
     replace B0 := B0.zw hY
     replace B1 := B1.zw hY
     replace hb := hb.trans (hY.mono hb.size)
     replace S1 := S1.zw hY
     clear hY
     replace hB2 := Nat.lt_of_lt_of_le hB2 hl2
     replace hE2 := Nat.le_trans hE2 hl2
     replace hX2_0 := Nat.le_trans hX2_0 hl2
     go_upto_region 3 with (fail)
     go_upto_region 6 with (first | (go_at_call 21; refine (eqInt64S_seg LL _ _ _ _ v2 v1 _ S2 S1 hR).mono ?_; rintro e W5 ⟨rfl, h2⟩; replace B0 := B0.zw h2; replace B1 := B1.zw h2; replace S1 := S1.zw h2; replace S2 := S2.zw h2; replace hb := hb.trans (h2.mono hb.size)))
     have hlo := Nat.le_trans S2.1 S2.lt
     go_upto_region 8 with (first | (go_at_call 22; refine (markInt64S_seg LL.length lo2 hi2 v2 _ S2.marks hlo hR).mono ?_; rintro e W6 ⟨rfl, M2, hG⟩; rw [← HK.out]))
     replace B0 := B0.below hG (by omega)
     replace B1 := B1.below hG (by omega)
     replace S1 := S1.below hG hX2_0
     replace hb := hb.trans (hG.mono hE2)
     clear S2 hG hlo
     go_upto_region 13 with (first | (go_at_call 23; refine (heldInt64S_seg LL.length lo2 hi2 v2 _ M2 hR).mono ?_; rintro e wS ⟨rfl, rfl⟩; rw [← HK.out]))
     have hB3 := B1.lt
     have hE3 := hb.size
     have hX3_0 := S1.lt
     have hX3_1 := M2.lt
     refine wp_region_stepsU Try.mixed (by kernel_rfl) (by kernel_rfl) (fun v => by (simp only [frL, Act.put, pA, pB, pC, Nat.reduceAdd, Nat.zero_add]; exact rfl))
      (fun L v wx => Below W6.heap.size W6 wx ∧ VF L v [some (.int .i64 p), some (.agg (zb 64 (f))), some (.agg (zb 64 (f))), some (.agg (zb 64 (g))), some (.agg (zb 64 (g))), some (.int .i64 n), none, none, none, none, none, none] ∧ (L 6 = true → (∃ vl lo hi, (v 6) = .tuple #[vl, .int .i64 cd] ∧ W6.heap.size ≤ lo ∧ Seg wx lo hi vl LL)) ∧ (L 7 = true → L 6 = true ∧ v 7 = (v 6)) ∧ (L 8 = true → L 6 = true ∧ v 8 = (extL (v 6) 0)) ∧ (L 9 = true → L 6 = true ∧ v 9 = (extL (v 6) 1)) ∧ (L 10 = true → L 6 = true ∧ v 10 = (extL (v 6) 0)) ∧ (L 11 = true → L 6 = true ∧ v 11 = (extL (v 6) 1))) ?_ ?_ ?_
     · exact ⟨(Below.refl _ W6).drew, VF.start, (fun h => by cases h), (fun h => by cases h), (fun h => by cases h), (fun h => by cases h), (fun h => by cases h), (fun h => by cases h)⟩
     · refine (.cons rfl ?_ (.cons rfl ?_ (.cons rfl ?_ (.cons rfl ?_ (.cons rfl ?_ (.cons rfl ?_ (.cons rfl ?_ (.cons rfl ?_ (.cons rfl ?_ (.cons rfl ?_ (.cons rfl ?_ (.cons rfl ?_ (.nil _)))))))))))))
       · intro L v wx hd hn hU ⟨hY, V, cL, d7, d8, d9, d10, d11⟩ K hK
         go_wp2_with fail
         exact hK _ (.int .i64 p) _ (by simp only [Act.put, pA, pB, pC]) ⟨hY, V.step 0 rfl, cL, d7, d8, d9, d10, d11⟩
       · intro L v wx hd hn hU ⟨hY, V, cL, d7, d8, d9, d10, d11⟩ K hK
         refine zlc (B0.zw hY) Try.underlying22 Try.size22 ?_
         exact hK _ _ _ rfl ⟨hY, V.step 1 rfl, cL, d7, d8, d9, d10, d11⟩
       · intro L v wx hd hn hU ⟨hY, V, cL, d7, d8, d9, d10, d11⟩ K hK
         have e1 := V.at (zdq hd 1 rfl) rfl
         go_wp2_with (go_at_call 19; refine (toPoly_any f hf _).mono ?_; rintro e wy ⟨rfl, hy⟩)
         exact hK _ (.agg (zb 64 (f))) _ (by simp only [Act.put, pA, pB, pC, e1]) ⟨hY.trans (hy.mono hY.size), V.step 2 rfl, (fun h => let ⟨v3, lo3, hi3, hyE, hl3, S3⟩ := cL h; ⟨v3, lo3, hi3, hyE, hl3, S3.zw hy⟩), d7, d8, d9, d10, d11⟩
       · intro L v wx hd hn hU ⟨hY, V, cL, d7, d8, d9, d10, d11⟩ K hK
         refine zlc (B1.zw hY) Try.underlying22 Try.size22 ?_
         exact hK _ _ _ rfl ⟨hY, V.step 3 rfl, cL, d7, d8, d9, d10, d11⟩
       · intro L v wx hd hn hU ⟨hY, V, cL, d7, d8, d9, d10, d11⟩ K hK
         have e3 := V.at (zdq hd 3 rfl) rfl
         go_wp2_with (go_at_call 19; refine (toPoly_any g hg _).mono ?_; rintro e wy ⟨rfl, hy⟩)
         exact hK _ (.agg (zb 64 (g))) _ (by simp only [Act.put, pA, pB, pC, e3]) ⟨hY.trans (hy.mono hY.size), V.step 4 rfl, (fun h => let ⟨v3, lo3, hi3, hyE, hl3, S3⟩ := cL h; ⟨v3, lo3, hi3, hyE, hl3, S3.zw hy⟩), d7, d8, d9, d10, d11⟩
       · intro L v wx hd hn hU ⟨hY, V, cL, d7, d8, d9, d10, d11⟩ K hK
         go_wp2_with fail
         exact hK _ (.int .i64 n) _ (by simp only [Act.put, pA, pB, pC]) ⟨hY, V.step 5 rfl, cL, d7, d8, d9, d10, d11⟩
       · intro L v wx hd hn hU ⟨hY, V, cL, d7, d8, d9, d10, d11⟩ K hK
         have e0 := V.at (zdq hd 0 rfl) rfl
         have e2 := V.at (zdq hd 2 rfl) rfl
         have e4 := V.at (zdq hd 4 rfl) rfl
         have e5 := V.at (zdq hd 5 rfl) rfl
         have hN0 := hY.size
         go_wp2_with (go_at_call 20; refine (HIM.out _).mono ?_; rintro e wy ⟨vz, loz, hiz, rfl, hl, hS, hy⟩)
         have hnew : (∃ vl lo hi, (Value.tuple #[vz, .int .i64 cd]) = .tuple #[vl, .int .i64 cd] ∧ W6.heap.size ≤ lo ∧ Seg wy lo hi vl LL) := ⟨vz, loz, hiz, rfl, Nat.le_trans hN0 hl, hS⟩
         exact hK _ (.tuple #[vz, .int .i64 cd]) _ (by simp only [Act.put, pA, pB, pC, e0, e2, e4, e5]) ⟨hY.trans (hy.mono hY.size), V.skip 6 rfl, (fun _ => hnew), (fun h => absurd (d7 h).1 (by rw [hU]; decide)), (fun h => absurd (d8 h).1 (by rw [hU]; decide)), (fun h => absurd (d9 h).1 (by rw [hU]; decide)), (fun h => absurd (d10 h).1 (by rw [hU]; decide)), (fun h => absurd (d11 h).1 (by rw [hU]; decide))⟩
       · intro L v wx hd hn hU ⟨hY, V, cL, d7, d8, d9, d10, d11⟩ K hK
         have hl := (zdq hd 6 rfl)
         have ⟨v3, lo3, hi3, hyE, hl3, S3⟩ := cL hl
         have ez : v 6 = (.tuple #[v3, .int .i64 cd]) := hyE
         go_wp2_with fail
         have hnew : L 6 = true ∧ (.tuple #[v3, .int .i64 cd]) = (v 6) := ⟨hl, by rw [hyE]; try rfl⟩
         exact hK _ (.tuple #[v3, .int .i64 cd]) _ (by simp only [Act.put, pA, pB, pC, ez, hyE]; try rfl) ⟨hY, V.skip 7 rfl, cL, (fun _ => hnew), d8, d9, d10, d11⟩
       · intro L v wx hd hn hU ⟨hY, V, cL, d7, d8, d9, d10, d11⟩ K hK
         have hs := d7 (zdq hd 7 rfl)
         have hl := hs.1
         have ⟨v3, lo3, hi3, hyE, hl3, S3⟩ := cL hl
         have ez : v 7 = (.tuple #[v3, .int .i64 cd]) := by rw [hs.2, hyE]; try rfl
         clear hs
         go_wp2_with fail
         have hnew : L 6 = true ∧ v3 = (extL (v 6) 0) := ⟨hl, by rw [hyE]; try rfl⟩
         exact hK _ v3 _ (by simp only [Act.put, pA, pB, pC, ez, hyE]; try rfl) ⟨hY, V.skip 8 rfl, cL, d7, (fun _ => hnew), d9, d10, d11⟩
       · intro L v wx hd hn hU ⟨hY, V, cL, d7, d8, d9, d10, d11⟩ K hK
         have hs := d7 (zdq hd 7 rfl)
         have hl := hs.1
         have ⟨v3, lo3, hi3, hyE, hl3, S3⟩ := cL hl
         have ez : v 7 = (.tuple #[v3, .int .i64 cd]) := by rw [hs.2, hyE]; try rfl
         clear hs
         go_wp2_with fail
         have hnew : L 6 = true ∧ (.int .i64 cd) = (extL (v 6) 1) := ⟨hl, by rw [hyE]; try rfl⟩
         exact hK _ (.int .i64 cd) _ (by simp only [Act.put, pA, pB, pC, ez, hyE]; try rfl) ⟨hY, V.skip 9 rfl, cL, d7, d8, (fun _ => hnew), d10, d11⟩
       · intro L v wx hd hn hU ⟨hY, V, cL, d7, d8, d9, d10, d11⟩ K hK
         have hs := d8 (zdq hd 8 rfl)
         have hl := hs.1
         have ⟨v3, lo3, hi3, hyE, hl3, S3⟩ := cL hl
         have ez : v 8 = v3 := by rw [hs.2, hyE]; try rfl
         clear hs
         go_wp2_with fail
         have hnew : L 6 = true ∧ v3 = (extL (v 6) 0) := ⟨hl, by rw [hyE]; try rfl⟩
         exact hK _ v3 _ (by simp only [Act.put, pA, pB, pC, ez, hyE]; try rfl) ⟨hY, V.skip 10 rfl, cL, d7, d8, d9, (fun _ => hnew), d11⟩
       · intro L v wx hd hn hU ⟨hY, V, cL, d7, d8, d9, d10, d11⟩ K hK
         have hs := d9 (zdq hd 9 rfl)
         have hl := hs.1
         have ⟨v3, lo3, hi3, hyE, hl3, S3⟩ := cL hl
         have ez : v 9 = (.int .i64 cd) := by rw [hs.2, hyE]; try rfl
         clear hs
         go_wp2_with fail
         have hnew : L 6 = true ∧ (.int .i64 cd) = (extL (v 6) 1) := ⟨hl, by rw [hyE]; try rfl⟩
         exact hK _ (.int .i64 cd) _ (by simp only [Act.put, pA, pB, pC, ez, hyE]; try rfl) ⟨hY, V.skip 11 rfl, cL, d7, d8, d9, d10, (fun _ => hnew)⟩
     · intro L v W4 hL ⟨hY, V, cL, d7, d8, d9, d10, d11⟩
       have e0 := V.at (hL 0 (by decide)) rfl
       have e1 := V.at (hL 1 (by decide)) rfl
       have e2 := V.at (hL 2 (by decide)) rfl
       have e3 := V.at (hL 3 (by decide)) rfl
       have e4 := V.at (hL 4 (by decide)) rfl
       have e5 := V.at (hL 5 (by decide)) rfl
       obtain ⟨v3, lo3, hi3, hyE, hl3, S3⟩ := cL (hL 6 (by decide))
       have e6 := hyE
       have e7 : v 7 = (.tuple #[v3, .int .i64 cd]) := by rw [(d7 (hL 7 (by decide))).2, hyE]; try rfl
       have e8 : v 8 = v3 := by rw [(d8 (hL 8 (by decide))).2, hyE]; try rfl
       have e9 : v 9 = (.int .i64 cd) := by rw [(d9 (hL 9 (by decide))).2, hyE]; try rfl
       have e10 : v 10 = v3 := by rw [(d10 (hL 10 (by decide))).2, hyE]; try rfl
       have e11 : v 11 = (.int .i64 cd) := by rw [(d11 (hL 11 (by decide))).2, hyE]; try rfl
       clear hL V cL d7 d8 d9 d10 d11 hyE
       simp only [Exit.then, e0, e1, e2, e3, e4, e5, e6, e7, e8, e9, e10, e11]
       clear e0 e1 e2 e3 e4 e5 e6 e7 e8 e9 e10 e11
       replace B0 := B0.zw hY
       replace B1 := B1.zw hY
       replace hb := hb.trans (hY.mono hb.size)
       replace S1 := S1.zw hY
       replace M2 := M2.zw hY
       clear hY
       replace hB3 := Nat.lt_of_lt_of_le hB3 hl3
       replace hE3 := Nat.le_trans hE3 hl3
       replace hX3_0 := Nat.le_trans hX3_0 hl3
       replace hX3_1 := Nat.le_trans hX3_1 hl3
       go_upto_region 14 with (fail)
       go_upto_region 17 with (first | (go_at_call 21; refine (eqInt64S_seg LL _ _ _ _ v3 v1 _ S3 S1 hR).mono ?_; rintro e W5 ⟨rfl, h2⟩; replace B0 := B0.zw h2; replace B1 := B1.zw h2; replace M2 := M2.zw h2; replace hb := hb.trans (h2.mono hb.size)))
       clear S3 S1
       go_wp2_with (first | (go_at_call 23; refine (heldInt64S_seg LL.length lo2 hi2 v2 _ M2 hR).mono ?_; rintro e wS ⟨rfl, rfl⟩; rw [← HK.out]))
       go_ret
       exact ⟨rfl, hb⟩
end Go.Proofs.Ytgcajgmokcmcgaa
end
section
namespace Go.Proofs.Ytgcajgmokcmcgaa
open Go.ChangeShapes Go.WideShapes Go.ChangeAt Go.RowKit
section
variable {H : Type} {enc : TypeId × Value → H} {P : Program}
theorem trod_int_to {e : TypeId} {k : IntKind} (he : P.underlying e = some (.int k)) {w : World} (w' : World) {b : Nat} (b' : Nat) {s : Nat → Bool} (s' : Nat → Bool) {h : Bool} (h' : Bool) {m : Nat} {c : List Value} {x : DataW H × List MemPlace}
 (hx : DataW.trod enc P w b s h m e c = some x) : DataW.trod enc P w' b' s' h' m e c = some x := by
 cases m with
 | zero => simp [DataW.trod] at hx
 | succ m =>
  obtain ⟨n, rfl, rfl, hw⟩ := DataW.trod_int he hx
  unfold DataW.trod
  rw [he]
  simp [hw]
theorem trod_int_same {e : TypeId} {k : IntKind} (he : P.underlying e = some (.int k)) (w w' : World) (b b' : Nat) (s s' : Nat → Bool) (h h' : Bool) (m : Nat) (c : List Value) :
 DataW.trod enc P w b s h m e c = DataW.trod enc P w' b' s' h' m e c := by
 cases h1 : DataW.trod enc P w b s h m e c with
 | some x => rw [trod_int_to he w' b' s' h' h1]
 | none =>
  cases h2 : DataW.trod enc P w' b' s' h' m e c with
  | none => rfl
  | some x => rw [trod_int_to he w b s h h2] at h1; cases h1
theorem open_barr {t e : TypeId} {n : Nat} {w : World} {r : Reach} {b0 base : Nat} {spare : Nat → Bool} {held : Bool} {v : Value} {d : DataW H} {p : List MemPlace}
 (ht : P.underlying t = some (.array n e)) (he : P.underlying e = some (.int .u8)) (hC : P.cellsOf t = n) (hCe : P.cellsOf e = 1)
 (hv : Value.okWide P w r b0 t v) (h : DataW.Trod enc P w base spare held t v d p) :
 ∃ f : Nat → Nat, byte f ∧ v = .agg (zb n f) ∧ p = [] ∧ ∀ (w' : World) (base' : Nat) (spare' : Nat → Bool) (held' : Bool), DataW.Trod enc P w' base' spare' held' t v d [] := by
 unfold Value.okWide at hv
 rw [ht] at hv
 obtain ⟨cs, rfl, hsz, _⟩ := hv
 obtain ⟨fuel, hf⟩ := h
 obtain ⟨xs, m, hm, hx, hlen, hxl, hel⟩ := DataW.trod_array ht hf
 subst hm
 have hcs : cs.size = n := by rw [hsz, hC]
 have each : ∀ i, i < n → ∃ k : Nat, k < 256 ∧ cs[i]? = some (.int .u8 (k : Int)) ∧ xs[i]? = some (.lit (.int .u8 (k : Int)), []) := by
  intro i hi
  have h1 := hel i hi
  have hxi : xs[i]? = some (xs[i]'(by omega)) := List.getElem?_eq_getElem (by omega)
  rw [hxi, hCe] at h1
  obtain ⟨z, hz1, hz2, hz3⟩ := DataW.trod_int he h1
  have hb := bounds_u8 hz3
  obtain ⟨k, rfl⟩ := Int.eq_ofNat_of_zero_le hb.1
  refine ⟨k, by omega, ?_, by rw [hxi, hz2]⟩
  have h2 : ((cs.toList.drop (i * 1)).take 1)[0]? = some (.int .u8 (k : Int)) := by
   have h3 : (Value.agg cs).cells.toList = cs.toList := rfl
   rw [← h3, hz1]; rfl
  simpa using h2
 refine ⟨fun i => match cs[i]? with | some (.int _ z) => if i < n then z.toNat else 0 | _ => 0, ?_, ?_, ?_, ?_⟩
 · intro i
   by_cases hi : i < n
   · obtain ⟨k, hk, hc, _⟩ := each i hi
     simp only [hc, hi, if_true, Int.toNat_natCast]
     exact hk
   · have : cs[i]? = none := Array.getElem?_eq_none (by omega)
     simp [this]
 · congr 1
   apply Array.ext_getElem?
   intro i
   by_cases hi : i < n
   · obtain ⟨k, hk, hc, _⟩ := each i hi
     rw [bcells_get hi]
     simp only [hc, hi, if_true, Int.toNat_natCast]
   · rw [Array.getElem?_eq_none (by omega), Array.getElem?_eq_none (by rw [zbs]; omega)]
 · have hp : p = xs.flatMap (·.2) := by simpa using congrArg Prod.snd hx
   rw [hp]
   rw [List.flatMap_eq_nil_iff]
   intro x hxm
   obtain ⟨i, hi⟩ := List.getElem?_of_mem hxm
   have hin : i < n := by rw [← hxl]; exact (List.getElem?_eq_some_iff.1 hi).1
   obtain ⟨k, _, _, h2⟩ := each i hin
   rw [hi] at h2
   injection h2 with h2
   rw [h2]
 · intro w' base' spare' held'
   refine ⟨m + 1, ?_⟩
   have e1 : DataW.trod enc P w' base' spare' held' (m + 1) t (Value.agg cs).cells.toList = DataW.trod enc P w base spare held (m + 1) t (Value.agg cs).cells.toList := by
    unfold DataW.trod
    rw [ht]
    simp only [trod_int_same he w' w base' base spare' spare held' held m]
   rw [e1, hf]
   have hp : p = xs.flatMap (·.2) := by simpa using congrArg Prod.snd hx
   have : p = [] := by
    rw [hp, List.flatMap_eq_nil_iff]
    intro x hxm
    obtain ⟨i, hi⟩ := List.getElem?_of_mem hxm
    have hin : i < n := by rw [← hxl]; exact (List.getElem?_eq_some_iff.1 hi).1
    obtain ⟨k, _, _, h2⟩ := each i hin
    rw [hi] at h2
    injection h2 with h2
    rw [h2]
   rw [this]
/-- the row's last step where the call has only made new memory, and the row does not say 'again' -/
theorem post_of_below0 {f : Func} {s : ChangeSpec} {apart fresh handsOn : Bool} {W W' : World} {args : Array Value} {v : Value} {ds gs : List (DataW H)} {before pa pv : List MemPlace}
 (hW : DataW.Whole enc P f.params.toList s.vars apart W args.toList ds gs before)
 (hres : ∀ (b : Nat) (sp : Nat → Bool) (hd : Bool), DataW.TrodAll enc P W' b sp hd f.resultTypes.toList (v.resultList f.resultTypes.size) (s.fn H (ds ++ gs)).results [])
 (hargs : ∀ sp : Nat → Bool, (∀ p ∈ before, sp p.block = true) → DataW.TrodAll enc P W' 0 sp true f.params.toList args.toList (s.fn H (ds ++ gs)).args pa)
 (hvars : ∀ sp : Nat → Bool, (∀ p ∈ before, sp p.block = true) → DataW.TrodVars enc P W' sp s.vars (s.fn H (ds ++ gs)).vars pv)
 (hps : before = pa ++ pv) (hb : Below W.heap.size W W') : s.post enc P f apart fresh handsOn false W args v W' := by
 have held : ∀ p ∈ before, (fun b => decide (b < W.heap.size)) p.block = true := fun p hp => by simpa using hW.lt p hp
 refine ⟨ds, gs, before, [], pa, pv, hW, hres _ _ _, hargs _ held, hvars _ held, ?_, fun h => by cases h⟩
 refine World.keptBut_mono (fun p hp => ⟨hp, .inr ?_⟩) (hb.frame (· ∈ before))
 rw [hps, List.mem_append] at hp
 exact hp
end
end Go.Proofs.Ytgcajgmokcmcgaa
end
section
namespace Go.Proofs.Ytgcajgmokcmcgaa
open Go
def cutW : List Char := [Char.ofNat 99, Char.ofNat 117, Char.ofNat 116]
theorem strip_cut (rest : List (List Char)) : stripLifts liftWords (cutW :: rest) = ([], cutW :: rest) := by
 have key : ∀ os : List String, (os.all fun o => !(cutW == o.toList)) = true → stripLifts os (cutW :: rest) = ([], cutW :: rest) := by
  intro os
  induction os with
  | nil => intro _; rfl
  | cons o os ih =>
   intro h
   simp only [List.all_cons, Bool.and_eq_true, Bool.not_eq_true'] at h
   unfold stripLifts
   rw [h.1]
   exact ih h.2
 exact key _ (by decide +kernel)
theorem make_cut {P : Program} {rest : List (List Char)} (h : behindMainWord (wordsSigns P.initOrder.toList) = cutW :: rest) : P.make = some .cut := by
 unfold Program.make
 rw [h]
 have e1 : (cutW == "gc".toList || cutW == "spec".toList) = false := by decide +kernel
 have e2 : (cutW == "cut".toList) = true := by decide +kernel
 simp only [e1, e2, Bool.true_or]
 rfl
theorem mayEnter_cut {P : Program} {rest : List (List Char)} (h : behindMainWord (wordsSigns P.initOrder.toList) = cutW :: rest) (h1 : P.laysLater = false) (h2 : P.bearsReflect = false) (h3 : P.doorFits [] = true) : P.mayEnter = true := by
 unfold Program.mayEnter
 rw [h]
 have e2 : (some cutW == some "cut".toList) = true := by decide +kernel
 simp only [strip_cut, h1, h2, h3, List.head?_cons, e2]
 simp
theorem lifts_cut {P : Program} {rest : List (List Char)} (h : behindMainWord (wordsSigns P.initOrder.toList) = cutW :: rest) : P.liftsFinal = false := by
 unfold Program.liftsFinal Program.headLifts
 rw [h]
 have e2 : (some cutW == some "cut".toList) = true := by decide +kernel
 have e3 : (some cutW == some "carried".toList) = false := by decide +kernel
 simp only [strip_cut, List.head?_cons, e2, e3]
 simp
/-- the signs of the head, and its words behind the first three -/
def initRest : List (List Nat) := [[97, 116], [108, 111, 111, 112, 46, 101, 120, 97, 109, 112, 108, 101, 47, 103, 48, 49, 50, 52, 53, 47, 108, 97, 119, 115, 46, 70, 110, 69, 120, 97, 99, 116, 68, 105, 103, 105, 116, 115, 79, 102, 81, 117, 111, 116, 105, 101, 110, 116], [108, 111, 111, 112, 46, 101, 120, 97, 109, 112, 108, 101, 47, 103, 48, 49, 50, 52, 53, 47, 108, 97, 119, 115, 46, 70, 110, 69, 120, 97, 99, 116, 67, 111, 110, 116, 105, 110, 117, 101, 100, 70, 114, 97, 99, 116, 105, 111, 110], [108, 111, 111, 112, 46, 101, 120, 97, 109, 112, 108, 101, 47, 103, 48, 49, 50, 52, 53, 47, 108, 97, 119, 115, 46, 70, 110, 69, 120, 97, 99, 116, 67, 111, 110, 118, 101, 114, 103, 101, 110, 116, 115, 79, 102], [108, 111, 111, 112, 46, 101, 120, 97, 109, 112, 108, 101, 47, 103, 48, 49, 50, 52, 53, 47, 108, 97, 119, 115, 46, 70, 110, 69, 120, 97, 99, 116, 66, 101, 115, 116, 65, 112, 112, 114, 111, 120, 105, 109, 97, 116, 105, 111, 110], [108, 111, 111, 112, 46, 101, 120, 97, 109, 112, 108, 101, 47, 103, 48, 49, 50, 52, 53, 47, 108, 97, 119, 115, 46, 70, 110, 69, 120, 97, 99, 116, 68, 101, 103, 114, 101, 101, 115, 79, 102, 80, 97, 114, 116, 105, 97, 108, 115], [108, 111, 111, 112, 46, 101, 120, 97, 109, 112, 108, 101, 47, 103, 48, 49, 50, 52, 53, 47, 108, 97, 119, 115, 46, 70, 110, 69, 120, 97, 99, 116, 82, 111, 111, 116, 80, 97, 114, 116], [108, 111, 111, 112, 46, 101, 120, 97, 109, 112, 108, 101, 47, 103, 48, 49, 50, 52, 53, 47, 108, 97, 119, 115, 46, 70, 110, 69, 120, 97, 99, 116, 68, 105, 103, 105, 116, 115, 79, 102, 82, 111, 111, 116], [108, 111, 111, 112, 46, 101, 120, 97, 109, 112, 108, 101, 47, 103, 48, 49, 50, 52, 53, 47, 108, 97, 119, 115, 46, 70, 110, 69, 120, 97, 99, 116, 73, 115, 83, 113, 117, 97, 114, 101, 80, 111, 108, 121], [108, 111, 111, 112, 46, 101, 120, 97, 109, 112, 108, 101, 47, 103, 48, 49, 50, 52, 53, 47, 108, 97, 119, 115, 46, 70, 110, 69, 120, 97, 99, 116, 69, 120, 112, 111, 110, 101, 110, 116, 105, 97, 108, 85, 112, 84, 111], [108, 111, 111, 112, 46, 101, 120, 97, 109, 112, 108, 101, 47, 103, 48, 49, 50, 52, 53, 47, 108, 97, 119, 115, 46, 70, 110, 69, 120, 97, 99, 116, 76, 111, 103, 97, 114, 105, 116, 104, 109, 85, 112, 84, 111], [108, 111, 111, 112, 46, 101, 120, 97, 109, 112, 108, 101, 47, 103, 48, 49, 50, 52, 53, 47, 108, 97, 119, 115, 46, 70, 110, 69, 120, 97, 99, 116, 65, 99, 116, 105, 111, 110, 79, 102], [108, 111, 111, 112, 46, 101, 120, 97, 109, 112, 108, 101, 47, 103, 48, 49, 50, 52, 53, 47, 108, 97, 119, 115, 46, 70, 110, 69, 120, 97, 99, 116, 66, 105, 110, 111, 109, 105, 97, 108, 79, 102], [108, 111, 111, 112, 46, 101, 120, 97, 109, 112, 108, 101, 47, 103, 48, 49, 50, 52, 53, 47, 108, 97, 119, 115, 46, 70, 110, 69, 120, 97, 99, 116, 77, 111, 111, 114, 101, 77, 97, 116, 114, 105, 120], [108, 111, 111, 112, 46, 101, 120, 97, 109, 112, 108, 101, 47, 103, 48, 49, 50, 52, 53, 47, 108, 97, 119, 115, 46, 70, 110, 69, 120, 97, 99, 116, 68, 114, 105, 110, 102, 101, 108, 100, 65, 99, 116, 105, 111, 110], [108, 111, 111, 112, 46, 101, 120, 97, 109, 112, 108, 101, 47, 103, 48, 49, 50, 52, 53, 47, 108, 97, 119, 115, 46, 70, 110, 69, 120, 97, 99, 116, 83, 121, 109, 98, 111, 108, 83, 117, 109]]
def initSigns : List Nat := [104, 97, 114, 110, 101, 115, 115, 32, 51, 50, 51, 53, 101, 48, 99, 53, 56, 98, 54, 99, 53, 102, 55, 52, 54, 57, 57, 49, 55, 54, 102, 50, 51, 55, 102, 51, 54, 50, 100, 99, 55, 50, 50, 55, 55, 56, 54, 57, 101, 102, 50, 52, 56, 52, 99, 101, 49, 101, 55, 49, 101, 53, 48, 56, 52, 56, 50, 52, 52, 100, 101, 49, 32, 99, 117, 116] ++ initRest.flatMap fun x => 32 :: x
theorem init_split : behindMainWord (wordsSigns (initSigns.map Char.ofNat)) = cutW :: initRest.map (fun w => w.map Char.ofNat) := by kernel_rfl
theorem init_order : Try.prog.initOrder = String.ofList (initSigns.map Char.ofNat) := by kernel_rfl
theorem init_cut : behindMainWord (wordsSigns Try.prog.initOrder.toList) = cutW :: initRest.map (fun w => w.map Char.ofNat) :=
 (congrArg (fun s : String => behindMainWord (wordsSigns s.toList)) init_order).trans ((congrArg (fun l => behindMainWord (wordsSigns l)) String.toList_ofList).trans init_split)
theorem Try.laysLater : Try.prog.laysLater = false := by kernel_rfl
theorem Try.bearsReflect : Try.prog.bearsReflect = false := by kernel_rfl
theorem Try.doorFits : Try.prog.doorFits [] = true := by kernel_rfl
theorem Try.mayEnter : Try.pinned.checked.prog.mayEnter = true := mayEnter_cut init_cut Try.laysLater Try.bearsReflect Try.doorFits
theorem Try.liftsFinal : Try.pinned.checked.prog.liftsFinal = false := lifts_cut init_cut
theorem Try.make : Try.pinned.checked.prog.make = some .cut := make_cut init_cut
end Go.Proofs.Ytgcajgmokcmcgaa
end
