/-
  What the rows of this claim rest on: arrays of bytes, walks of the functions, plain mathematics.
-/
import Derived.Test.YtoncepgcfifgbaaZb7
import Derived.WalkKit
import Derived.WalkSpells
import Derived.WalkLawsBesides
import Derived.Lib.Hide
import Derived.Laws.Rows
import Derived.Laws.CopyOwn
import Derived.Deep.QuietTactic
import Derived.Deep.WholeRow
import Derived.Deep.Draws
import Derived.Deep.MidRow
import Derived.Deep.CutRange
import Derived.Deep.DeepCutAuto
import Derived.Deep.RegionHeld3
import Derived.BigQuiet
import Derived.BigRegion
import Derived.Test.YtoncepgcfifgbaaRows
import Derived.Great.BuildSlice
import Derived.Laws.Tables
import Derived.Laws.StructEq
import Derived.ScopeJumps
import Derived.Deep.CutBlock
import Derived.OwnWalk
import Derived.RangeFuncNested
import Derived.RangeFuncBound
import Derived.RangeFuncCalls
import Derived.RangeFuncLeaves
import Derived.Shelf.Abstract
import Derived.Shelf.RegionOpen
import Derived.OwnWalkIn
import Derived.TacticsInMore
import Derived.LoopNIn
import Derived.LoopIn
import Derived.Maps.OwnOps
import Derived.DeepKeys4
import Derived.Carry
import Derived.Test.YtoncepgcfifgbaaProg
section
namespace Go.Proofs.Ytoncepgcfifgbaa
open Go Go.RowKit
set_option linter.unusedVariables false
set_option linter.unusedSimpArgs false
attribute [local irreducible] deg facRows run
/-- the list -/
def fcR (p : Int) (f : Nat → Nat) : List (Nat × Nat) := if spV p f 0 = 0 then run p.toNat 64 1 f else []
theorem fcR_bad {p c : Int} {f : Nat → Nat} (h : spV p f 0 = c) (h2 : c ≠ 0) : fcR p f = [] := by unfold fcR; rw [h, if_neg h2]
theorem fcR_ok {n : Nat} {f : Nat → Nat} (h : spV (n : Int) f 0 = 0) : fcR (n : Int) f = run n 64 1 f := by unfold fcR; rw [if_pos h]; rfl
theorem fcR_len {p : Int} {f : Nat → Nat} (hf : byte f) : (fcR p f).length ≤ 12 := by
 rcases spV_cases (p := p) (f := f) (lo := 0) with ⟨c, hs, hc0, hc12⟩ | ⟨hs, hc, hr1, hr2⟩
 · rw [fcR_bad hs hc0]; exact Nat.zero_le _
 · obtain ⟨n, hn, n2, n7⟩ := okP_nat (codeL_zero hc).1
   subst hn
   rw [fcR_ok hs]
   exact (run_ok (prime_of hc) (lt_of_code hc (f := f) (by simp)) hr1 hr2).1
theorem facRows_nil (p : Nat) : facRows p [] = [] := by unfold facRows; rfl
/-- both answers of FactorsOf -/
def FcF (p : Int) (f : Nat → Nat) (w : World) (e : Ending) (w' : World) : Prop := ∃ v, e = .returned (.tuple #[v, .int .i64 (spV p f 0)]) ∧ SlL w' w.heap.size 100 65 v (facRows p.toNat (fcR p f)) ∧ Below w.heap.size w w'
set_option maxRecDepth 100000 in
set_option maxHeartbeats 3200000 in
theorem spec_FactorsOf_any (p : Int) (f : Nat → Nat) (hf : byte f) (w : World) :
 Calls Try.prog 42 #[.int .i64 p, .agg (zb 64 f)] w (FcF p f w) := by
 go_enter Try.func42, Try.ntmps42
 go_upto_region 1 with (fail)
 obtain ⟨W1, hwo⟩ : ∃ v : World, v = (w.alloc (.cells (zb 64 (f)) 23)) := ⟨_, rfl⟩
 have B0 : Blk W1 (w.heap.size) 64 23 (f) := by subst hwo; have := (Blk.new w 64 23 (f)); simpa using this
 have hb : Below w.heap.size w W1 := by subst hwo; exact ((Below.refl _ _).alloc (Nat.le_refl _) _)
 rw [← hwo]
 clear hwo
 go_upto_region 2 with (first | (refine zla (.tmp 3) B0 Try.underlying23 Try.size23 ?_) | (go_at_call 103; refine (l02Degree_any p f hf 0 (by decide) (by decide) _).mono ?_; rintro e W2 ⟨rfl, hW2⟩; replace B0 := B0.zw hW2; replace hb := (hb).trans (hW2.mono (hb).size)))
 rcases spV_cases (p := p) (f := f) (lo := 0) with ⟨c, hs, hc0, hc12⟩ | ⟨hs, hc, hr1, hr2⟩
 · have HV := Lib.hid (fcR_bad hs hc0)
   have HS := Lib.hid hs
   rw [hs]
   clear hs
   have hb1 : ((c : Int) != 0) = true := by simp [hc0]
   go_wp2_with fail
   go_ret2
   exact ⟨_, by rw [HS.out]; rfl, by rw [HV.out, facRows_nil]; exact SlL.nil _ _ hb.size, hb⟩
 · obtain ⟨n, hn, n2, n7⟩ := okP_nat (codeL_zero hc).1
   subst hn
   have lf := lt_of_code hc (f := f) (by simp)
   have hpr := prime_of hc
   have HV := Lib.hid (fcR_ok hs)
   have HS := Lib.hid hs
   rw [hs]
   clear hs hc
   have HFA := Lib.hid (fun W => l02Split_any n f W hpr lf (by omega) (by omega))
   go_upto_region 4 with (fail)
   go_wp2_with (first | (refine zla (.tmp 3) B0 Try.underlying23 Try.size23 ?_) | (go_at_call 110; refine (HFA.out _).mono ?_; rintro e W3 ⟨lst, rfl, hS, hW3⟩; have hbw := hb.size; replace hb := (hb).trans (hW3.mono (hb).size); replace hS := hS.base hbw))
   go_ret2
   exact ⟨_, by rw [HS.out]; rfl, by rw [HV.out, Int.toNat_natCast]; exact hS, hb⟩
set_option maxRecDepth 100000 in
set_option maxHeartbeats 3200000 in
theorem impl_FactorsOf_any (p : Int) (f : Nat → Nat) (hf : byte f) (w : World) :
 Calls Try.prog 43 #[.int .i64 p, .agg (zb 64 f)] w (FcF p f w) := by
 go_enter Try.func43, Try.ntmps43
 go_upto_region 1 with (fail)
 obtain ⟨W1, hwo⟩ : ∃ v : World, v = (w.alloc (.cells (zb 64 (f)) 23)) := ⟨_, rfl⟩
 have B0 : Blk W1 (w.heap.size) 64 23 (f) := by subst hwo; have := (Blk.new w 64 23 (f)); simpa using this
 have hb : Below w.heap.size w W1 := by subst hwo; exact ((Below.refl _ _).alloc (Nat.le_refl _) _)
 rw [← hwo]
 clear hwo
 go_upto_region 2 with (first | (refine zla (.tmp 3) B0 Try.underlying23 Try.size23 ?_) | (go_at_call 106; refine (checkSplit_any p f hf 0 (by decide) (by decide) _).mono ?_; rintro e W2 ⟨rfl, hW2⟩; replace B0 := B0.zw hW2; replace hb := (hb).trans (hW2.mono (hb).size)))
 rcases spV_cases (p := p) (f := f) (lo := 0) with ⟨c, hs, hc0, hc12⟩ | ⟨hs, hc, hr1, hr2⟩
 · have HV := Lib.hid (fcR_bad hs hc0)
   have HS := Lib.hid hs
   rw [hs]
   clear hs
   have hb1 : ((c : Int) != 0) = true := by simp [hc0]
   go_wp2_with fail
   go_ret2
   exact ⟨_, by rw [HS.out]; rfl, by rw [HV.out, facRows_nil]; exact SlL.nil _ _ hb.size, hb⟩
 · obtain ⟨n, hn, n2, n7⟩ := okP_nat (codeL_zero hc).1
   subst hn
   have lf := lt_of_code hc (f := f) (by simp)
   have hpr := prime_of hc
   have HV := Lib.hid (fcR_ok hs)
   have HS := Lib.hid hs
   rw [hs]
   clear hs hc
   have HFA := Lib.hid (fun W => factorsOf_any n f W hpr lf (by omega) (by omega))
   go_upto_region 4 with (fail)
   go_wp2_with (first | (refine zla (.tmp 3) B0 Try.underlying23 Try.size23 ?_) | (go_at_call 111; refine (HFA.out _).mono ?_; rintro e W3 ⟨lst, rfl, hS, hW3⟩; have hbw := hb.size; replace hb := (hb).trans (hW3.mono (hb).size); replace hS := hS.base hbw))
   go_ret2
   exact ⟨_, by rw [HS.out]; rfl, by rw [HV.out, Int.toNat_natCast]; exact hS, hb⟩
set_option maxRecDepth 100000 in
set_option maxHeartbeats 3200000 in
theorem eqFactor_same (f : Nat → Nat) (k : Nat) (w : World) :
 Calls Try.prog 112 #[.agg (facC f k).toArray, .agg (facC f k).toArray] w fun e w' => e = .returned (.bool true) ∧ Below w.heap.size w w' := by
 go_enter Try.func112, Try.ntmps112
 go_upto_region 1 with (fail)
 obtain ⟨W1, hwo⟩ : ∃ v : World, v = ((w.alloc (.cells (facC f k).toArray 100)).alloc (.cells (facC f k).toArray 100)) := ⟨_, rfl⟩
 have B0 : Row W1 w.heap.size 100 (facC f k).toArray := by subst hwo; exact (Row.new w 100 (facC f k).toArray).alloc _
 have B1 : Row W1 (w.heap.size + 1) 100 (facC f k).toArray := by subst hwo; have := Row.new (w.alloc (.cells (facC f k).toArray 100)) 100 (facC f k).toArray; simpa using this
 have hb : Below w.heap.size w W1 := by subst hwo; exact (((Below.refl _ _).alloc (Nat.le_refl _) _).alloc (by simp) _)
 rw [← hwo]
 clear hwo
 have hr0 : W1.rangeAt w.heap.size 0 (bl 64 f) := fun j u hu => B0.range j u (by unfold facC; rw [List.getElem?_append_left (List.getElem?_eq_some_iff.1 hu).1]; exact hu)
 have hr1 : W1.rangeAt (w.heap.size + 1) 0 (bl 64 f) := fun j u hu => B1.range j u (by unfold facC; rw [List.getElem?_append_left (List.getElem?_eq_some_iff.1 hu).1]; exact hu)
 go_upto_region 3 with (first | (refine wpList_load_mid rfl 23 (.tmp 5) rfl w.heap.size 0 rfl (bl 64 f) _ hr0 Try.underlying23 rfl (by rw [zl]; exact Try.size23) ?_) | (refine wpList_load_mid rfl 23 (.tmp 7) rfl (w.heap.size + 1) 0 rfl (bl 64 f) _ hr1 Try.underlying23 rfl (by rw [zl]; exact Try.size23) ?_) | (go_at_call 28; refine (eqPoly_same f f (fun _ _ => rfl) _).mono ?_; rintro e W2 ⟨rfl, h2⟩; replace B0 := B0.zw h2; replace B1 := B1.zw h2; replace hb := hb.trans (h2.mono hb.size)))
 clear hr0 hr1
 have cc0 := B0.cell (facC_at f k)
 have cc1 := B1.cell (facC_at f k)
 have hne : ((k : Int) != (k : Int)) = false := by simp
 go_wp2_with fail
 go_ret
 exact ⟨rfl, hb⟩
set_option maxRecDepth 100000 in
set_option maxHeartbeats 3200000 in
theorem eqFactorS_same (n : Nat) (R : List (Nat × Nat)) (a1 a2 : Option Addr) (cap1 cap2 base1 base2 : Nat) (w : World) (h1 : SlL w base1 100 65 (.slice a1 R.length cap1) (facRows n R)) (h2 : SlL w base2 100 65 (.slice a2 R.length cap2) (facRows n R)) (hR : R.length ≤ 12) :
 Calls Try.prog 44 #[.slice a1 R.length cap1, .slice a2 R.length cap2] w fun e w' => e = .returned (.bool true) ∧ Below w.heap.size w w' := by
 go_enter Try.func44, Try.ntmps44
 go_wp2_with fail
 go_loopw [5] (fun i wr => ∃ j : Nat, i = .int .i64 (j : Int) ∧ j ≤ R.length ∧ Below w.heap.size w wr) (fun i _ => R.length - (intOf i).toNat)
 case atStart => exact ⟨0, rfl, Nat.zero_le _, Below.refl _ _⟩
 case round =>
  obtain ⟨j, rfl, hjR, hb⟩ := hrel
  by_cases hj : j < R.length
  · obtain ⟨x, hx⟩ : ∃ x, R[j]? = some x := ⟨_, List.getElem?_eq_getElem hj⟩
    obtain ⟨g1, rfl⟩ := h1.some (by rw [facRows_len]; omega)
    obtain ⟨g2, rfl⟩ := h2.some (by rw [facRows_len]; omega)
    have hrow : (facRows n R)[j]? = some (facC (ofN n x.1) x.2) := by unfold facRows; rw [List.getElem?_map, hx]; rfl
    have B0 : SlL wr base1 100 65 (.slice (some ⟨g1, 0, none⟩) R.length cap1) (facRows n R) := h1.zw hb
    have B1 : SlL wr base2 100 65 (.slice (some ⟨g2, 0, none⟩) R.length cap2) (facRows n R) := h2.zw hb
    have hjl : (j : Int) < (R.length : Int) := by omega
    clear h1 h2
    go_upto_region 6 with (fail)
    have lt_B0 : (base1) ≤ wr.heap.size := B0.lt
    have lt_B1 : (base2) ≤ wr.heap.size := B1.lt
    have hbase : w.heap.size ≤ wr.heap.size := hb.size
    refine zq Try.mixed (by kernel_rfl) (by kernel_rfl) (fun v => by (simp only [frL, Act.put, pA, pB, pC, Nat.reduceAdd, Nat.zero_add]; exact rfl))
     (fun L v W1 => Below w.heap.size w W1 ∧ wr.heap.size ≤ W1.heap.size ∧ SlL W1 base1 100 65 (.slice (some ⟨g1, 0, none⟩) R.length cap1) (facRows n R) ∧ SlL W1 base2 100 65 (.slice (some ⟨g2, 0, none⟩) R.length cap2) (facRows n R) ∧ (L 0 = true → v 0 = (.slice (some ⟨g1, 0, none⟩) R.length cap1)) ∧ (L 1 = true → v 1 = (.int .i64 (j : Int))) ∧ (L 2 = true → v 2 = (.pointer (some ⟨g1, j * 65, none⟩))) ∧ (L 3 = true → v 3 = (.agg (facC (ofN n x.1) x.2).toArray)) ∧ (L 4 = true → v 4 = (.slice (some ⟨g2, 0, none⟩) R.length cap2)) ∧ (L 5 = true → v 5 = (.int .i64 (j : Int))) ∧ (L 6 = true → v 6 = (.pointer (some ⟨g2, j * 65, none⟩))) ∧ (L 7 = true → v 7 = (.agg (facC (ofN n x.1) x.2).toArray)) ∧ (L 8 = true → v 8 = (.bool true)) ∧ (L 9 = true → v 9 = (.bool false))) ?_ ?_ ?_
    · intro v hv0
      exact ⟨hb.drew, Nat.le_refl _, B0.drew, B1.drew, (fun h => by cases h), (fun h => by cases h), (fun h => by cases h), (fun h => by cases h), (fun h => by cases h), (fun h => by cases h), (fun h => by cases h), (fun h => by cases h), (fun h => by cases h), (fun h => by cases h)⟩
    · refine (.cons rfl ?_ (.cons rfl ?_ (.cons rfl ?_ (.cons rfl ?_ (.cons rfl ?_ (.cons rfl ?_ (.cons rfl ?_ (.cons rfl ?_ (.cons rfl ?_ (.cons rfl ?_ (.nil _)))))))))))
      all_goals intro L v W1 hd hn ⟨hB, hz, s0, s1, h0, h1, h2, h3, h4, h5, h6, h7, h8, h9⟩ K hK
      · go_wp2_with fail
        exact hK _ (.slice (some ⟨g1, 0, none⟩) R.length cap1) _ (by simp only [Act.put, pA, pB, pC ]) ⟨hB, hz, s0, s1, (fun _ => rfl), h1, h2, h3, h4, h5, h6, h7, h8, h9⟩
      · go_wp2_with fail
        exact hK _ (.int .i64 (j : Int)) _ (by simp only [Act.put, pA, pB, pC ]) ⟨hB, hz, s0, s1, h0, (fun _ => rfl), h2, h3, h4, h5, h6, h7, h8, h9⟩
      · have e0 := h0 (zdq hd 0 rfl)
        have e1 := h1 (zdq hd 1 rfl)
        go_wp2_with fail
        exact hK _ (.pointer (some ⟨g1, j * 65, none⟩)) _ (by simp only [Act.put, pA, pB, pC, e0, e1]) ⟨hB, hz, s0, s1, h0, h1, (fun _ => rfl), h3, h4, h5, h6, h7, h8, h9⟩
      · have e2 := h2 (zdq hd 2 rfl)
        have hr := (s0).range hrow
        refine wp_load_mid 100 _ rfl _ (j * 65) e2 _ _ hr Try.underlying100 rfl (by rw [facC_len]; exact Try.size100) ?_
        exact hK _ _ _ rfl ⟨hB, hz, s0, s1, h0, h1, h2, (fun _ => rfl), h4, h5, h6, h7, h8, h9⟩
      · go_wp2_with fail
        exact hK _ (.slice (some ⟨g2, 0, none⟩) R.length cap2) _ (by simp only [Act.put, pA, pB, pC ]) ⟨hB, hz, s0, s1, h0, h1, h2, h3, (fun _ => rfl), h5, h6, h7, h8, h9⟩
      · go_wp2_with fail
        exact hK _ (.int .i64 (j : Int)) _ (by simp only [Act.put, pA, pB, pC ]) ⟨hB, hz, s0, s1, h0, h1, h2, h3, h4, (fun _ => rfl), h6, h7, h8, h9⟩
      · have e4 := h4 (zdq hd 4 rfl)
        have e5 := h5 (zdq hd 5 rfl)
        go_wp2_with fail
        exact hK _ (.pointer (some ⟨g2, j * 65, none⟩)) _ (by simp only [Act.put, pA, pB, pC, e4, e5]) ⟨hB, hz, s0, s1, h0, h1, h2, h3, h4, h5, (fun _ => rfl), h7, h8, h9⟩
      · have e6 := h6 (zdq hd 6 rfl)
        have hr := (s1).range hrow
        refine wp_load_mid 100 _ rfl _ (j * 65) e6 _ _ hr Try.underlying100 rfl (by rw [facC_len]; exact Try.size100) ?_
        exact hK _ _ _ rfl ⟨hB, hz, s0, s1, h0, h1, h2, h3, h4, h5, h6, (fun _ => rfl), h8, h9⟩
      · have e3 := h3 (zdq hd 3 rfl)
        have e7 := h7 (zdq hd 7 rfl)
        go_wp2_with (go_at_call 112; refine (eqFactor_same _ _ _).mono ?_; rintro e wy ⟨rfl, hy⟩)
        exact hK _ (.bool true) _ (by simp only [Act.put, pA, pB, pC, e3, e7]) ⟨hB.trans (hy.mono hB.size), (Nat.le_trans hz hy.size), s0.zw hy, s1.zw hy, h0, h1, h2, h3, h4, h5, h6, h7, (fun _ => rfl), h9⟩
      · have e8 := h8 (zdq hd 8 rfl)
        go_wp2_with fail
        exact hK _ (.bool false) _ (by simp only [Act.put, pA, pB, pC, e8]) ⟨hB, hz, s0, s1, h0, h1, h2, h3, h4, h5, h6, h7, h8, (fun _ => rfl)⟩
    · intro L v W1 hL ⟨hB, hz, s0, s1, h0, h1, h2, h3, h4, h5, h6, h7, h8, h9⟩
      have e0 := h0 (hL 0 (by decide))
      have e1 := h1 (hL 1 (by decide))
      have e2 := h2 (hL 2 (by decide))
      have e3 := h3 (hL 3 (by decide))
      have e4 := h4 (hL 4 (by decide))
      have e5 := h5 (hL 5 (by decide))
      have e6 := h6 (hL 6 (by decide))
      have e7 := h7 (hL 7 (by decide))
      have e8 := h8 (hL 8 (by decide))
      have e9 := h9 (hL 9 (by decide))
      clear hL h0 h1 h2 h3 h4 h5 h6 h7 h8 h9
      simp only [Exit.then, e0, e1, e2, e3, e4, e5, e6, e7, e8, e9]
      clear e0 e1 e2 e3 e4 e5 e6 e7 e8 e9
      replace B0 := s0
      clear s0
      replace B1 := s1
      clear s1
      replace hb := hB
      clear hB
      clear hbase hz lt_B0 lt_B1
      go_wp2_with fail
      go_roundw
      case rel => exact ⟨j + 1, by go_num, by omega, hb⟩
      case measure => simp [intOf] <;> omega
  · have hjl : ¬ (j : Int) < (R.length : Int) := by omega
    go_wp2_with fail
    go_ret
    exact ⟨rfl, hb⟩
end Go.Proofs.Ytoncepgcfifgbaa
namespace Go.Proofs.Ytoncepgcfifgbaa
open Go Go.RowKit
set_option linter.unusedVariables false
set_option linter.unusedSimpArgs false
theorem mkF_u {q : Nat} (h : ¬ q % 65 = 64) : mkF q = .int .u8 ((1 + (q : Int)) % 256) := by unfold mkF; rw [if_neg h]
theorem mkF_i {q : Nat} (h : q % 65 = 64) : mkF q = .int .i64 (1 + (q : Int)) := by unfold mkF; rw [if_pos h]
theorem mkF_some {w : World} {base n q cap : Nat} {a : Option Addr} (h : MkF w base (.slice a n cap) n q) (hn : 0 < n) : ∃ g, a = some ⟨g, 0, none⟩ := by
 obtain ⟨ys, h1, _⟩ := h
 rcases h1.2 with ⟨h2, h3⟩ | ⟨g, c, cur, h2, _⟩
 · omega
 · injection h2 with h2; exact ⟨g, h2⟩
theorem SlL.marks {w : World} {base n : Nat} {v : Value} {cs : List (List Value)} (h : SlL w base 100 65 v cs) (hn : cs.length = n) : MkF w base v n 0 := by
 delta SlL at h
 exact ⟨cs.flatten, hn ▸ h.2.2, fun k hk => absurd hk (by omega)⟩
attribute [local irreducible] mkF MkF
set_option maxRecDepth 100000 in
set_option maxHeartbeats 3200000 in
theorem markFactorS_any (n : Nat) (a0 : Option Addr) (cap base : Nat) (w : World) (h : MkF w base (.slice a0 n cap) n 0) (hn : n ≤ 12) :
 Calls Try.prog 45 #[.slice a0 n cap, .int .i64 1] w fun e w' => e = .returned (.int .i64 ((1 + 65 * n : Nat) : Int)) ∧ MkF w' base (.slice a0 n cap) n (65 * n) ∧ w.grownBy w' (Value.slice a0 n cap).ownBlock := by
 go_enter Try.func45, Try.ntmps45
 go_wp2_with fail
 go_loopw [1, 5] (fun x i wr => ∃ j X : Nat, x = .int .i64 (X : Int) ∧ X = 1 + 65 * j ∧ i = .int .i64 (j : Int) ∧ j ≤ n ∧ MkF wr base (.slice a0 n cap) n (65 * j) ∧ w.grownBy wr (Value.slice a0 n cap).ownBlock) (fun _ i _ => n - (intOf i).toNat)
 case atStart => exact ⟨0, 1, rfl, rfl, rfl, Nat.zero_le _, h, grown_refl _ _⟩
 case round =>
  clear h
  obtain ⟨j, X, rfl, hX, rfl, hjn, hM, hG⟩ := hrel
  by_cases hj : j < n
  · have hjl : (j : Int) < (n : Int) := by omega
    obtain ⟨g, rfl⟩ := mkF_some hM (by omega)
    have hX2 : X ≤ 781 := by omega
    have HX := Lib.hid hX
    clear hX
    go_wp2_with fail
    go_loopw [1, 6] (fun x i wr => ∃ k X : Nat, x = .int .i64 (X : Int) ∧ X = 1 + 65 * j + k ∧ i = .int .i64 (k : Int) ∧ k ≤ 64 ∧ MkF wr base (.slice (some ⟨g, 0, none⟩) n cap) n (65 * j + k) ∧ w.grownBy wr (some g)) (fun _ i _ => 64 - (intOf i).toNat)
    case atStart => exact ⟨0, X, rfl, by have := HX.out; omega, rfl, by omega, hM, hG⟩
    case round =>
     clear hM hG HX
     obtain ⟨k, X, rfl, hX, rfl, hk, hM, hG⟩ := hrel
     have hX2 : X ≤ 845 := by omega
     have HX := Lib.hid hX
     clear hX
     have HQ := Lib.hid (show j * 65 + k = 65 * j + k by omega)
     by_cases hlt : k < 64
     · obtain ⟨⟨u, hc⟩, hz, hM2, hG2⟩ := hM.step (by omega)
       have e1 : mkF (65 * j + k) = .int .u8 ((X : Int) % 256) := by
        rw [mkF_u (by omega), show (1 + ((65 * j + k : Nat) : Int)) = (X : Int) by have := HX.out; omega]
       rw [e1, ← HQ.out] at hM2 hG2
       rw [← HQ.out] at hc hz
       have HM2 := Lib.hid hM2
       have HG2 := Lib.hid (grown_trans hG hG2)
       clear hM2 hG2 hM hG e1
       go_wp2_with fail
       go_roundw
       case rel => exact ⟨k + 1, X + 1, by go_num, by have := HX.out; omega, by go_num, by omega, HM2.out.same _ (by omega), HG2.out⟩
       case measure => simp [intOf] <;> omega
     · have e : k = 64 := by omega
       subst e
       obtain ⟨⟨u, hc⟩, hz, hM2, hG2⟩ := hM.step (by omega)
       have e1 : mkF (65 * j + 64) = .int .i64 (X : Int) := by
        rw [mkF_i (by omega), show (1 + ((65 * j + 64 : Nat) : Int)) = (X : Int) by have := HX.out; omega]
       rw [e1, ← HQ.out] at hM2 hG2
       rw [← HQ.out] at hc hz
       have HM2 := Lib.hid hM2
       have HG2 := Lib.hid (grown_trans hG hG2)
       clear hM2 hG2 hM hG e1
       go_wp2_with fail
       go_roundw
       case rel => exact ⟨j + 1, X + 1, by go_num, by have := HX.out; omega, by go_num, by omega, HM2.out.same _ (by omega), HG2.out⟩
       case measure => simp [intOf] <;> omega
  · have hjl : ¬ (j : Int) < (n : Int) := by omega
    have e : j = n := by omega
    subst e
    go_wp2_with fail
    go_ret
    exact ⟨ret_int (by push_cast; rfl), hM, hG⟩
set_option maxRecDepth 100000 in
set_option maxHeartbeats 3200000 in
theorem heldFactorS_any (n : Nat) (a0 : Option Addr) (cap base : Nat) (w : World) (h : MkF w base (.slice a0 n cap) n (65 * n)) (hn : n ≤ 12) :
 Calls Try.prog 46 #[.slice a0 n cap, .int .i64 1] w fun e w' => e = .returned (.int .i64 ((1 + 65 * n : Nat) : Int)) ∧ w = w' := by
 go_enter Try.func46, Try.ntmps46
 go_wp2_with fail
 go_loopw [1, 5] (fun x i wr => ∃ j X : Nat, x = .int .i64 (X : Int) ∧ X = 1 + 65 * j ∧ i = .int .i64 (j : Int) ∧ j ≤ n ∧ wr = w) (fun _ i _ => n - (intOf i).toNat)
 case atStart => exact ⟨0, 1, rfl, rfl, rfl, Nat.zero_le _, rfl⟩
 case round =>
  obtain ⟨j, X, rfl, hX, rfl, hjn, rfl⟩ := hrel
  by_cases hj : j < n
  · have hjl : (j : Int) < (n : Int) := by omega
    obtain ⟨g, rfl⟩ := mkF_some h (by omega)
    have hX2 : X ≤ 781 := by omega
    have HX := Lib.hid hX
    clear hX
    go_wp2_with fail
    go_loopw [1, 6] (fun x i wr2 => ∃ k X : Nat, x = .int .i64 (X : Int) ∧ X = 1 + 65 * j + k ∧ i = .int .i64 (k : Int) ∧ k ≤ 64 ∧ wr2 = wr) (fun _ i _ => 64 - (intOf i).toNat)
    case atStart => exact ⟨0, X, rfl, by have := HX.out; omega, rfl, by omega, rfl⟩
    case round =>
     clear HX
     obtain ⟨k, X, rfl, hX, rfl, hk, rfl⟩ := hrel
     have hX2 : X ≤ 845 := by omega
     have HX := Lib.hid hX
     clear hX
     have HQ := Lib.hid (show j * 65 + k = 65 * j + k by omega)
     by_cases hlt : k < 64
     · have e1 : mkF (65 * j + k) = .int .u8 ((X : Int) % 256) := by
        rw [mkF_u (by omega), show (1 + ((65 * j + k : Nat) : Int)) = (X : Int) by have := HX.out; omega]
       have hc := MkF.cell h (k := 65 * j + k) (by omega) (by omega)
       rw [e1, ← HQ.out] at hc
       have hne : (((X : Int) % 256) != ((X : Int) % 256)) = false := by simp
       clear e1
       go_wp2_with fail
       go_roundw
       case rel => exact ⟨k + 1, X + 1, by go_num, by have := HX.out; omega, by go_num, by omega, trivial⟩
       case measure => simp [intOf] <;> omega
     · have e : k = 64 := by omega
       subst e
       have e1 : mkF (65 * j + 64) = .int .i64 (X : Int) := by
        rw [mkF_i (by omega), show (1 + ((65 * j + 64 : Nat) : Int)) = (X : Int) by have := HX.out; omega]
       have hc := MkF.cell h (k := 65 * j + 64) (by omega) (by omega)
       rw [e1, ← HQ.out] at hc
       have hne : ((X : Int) != (X : Int)) = false := by simp
       clear e1
       go_wp2_with fail
       go_roundw
       case rel => exact ⟨j + 1, X + 1, by go_num, by have := HX.out; omega, by go_num, by omega, trivial⟩
       case measure => simp [intOf] <;> omega
  · have hjl : ¬ (j : Int) < (n : Int) := by omega
    have e : j = n := by omega
    subst e
    go_wp2_with fail
    go_ret
    exact ⟨ret_int (by push_cast; rfl), rfl⟩
end Go.Proofs.Ytoncepgcfifgbaa
end
section
namespace Go.Proofs.Ytoncepgcfifgbaa
open Go.RowKit
set_option linter.unusedVariables false
set_option linter.unusedSimpArgs false
set_option maxRecDepth 100000 in
set_option maxHeartbeats 3200000 in
theorem FnExactFactorsOf_walk (p : Int) (f : Nat → Nat) (hf : byte f) (w : World) :
 Calls Try.prog 9 #[.int .i64 p, .agg (zb 64 f)] w fun e w' => e = .returned (.bool true) ∧ Below w.heap.size w w' := by
 have hR := (fcR_len (p := p) hf)
 obtain ⟨K, hK⟩ : ∃ K, K = 1 + 65 * (fcR p f).length := ⟨_, rfl⟩
 have hK1 : (K : Int) ≤ 1000000 := by omega
 have hK2 : ((K : Int) != (K : Int)) = false := by simp
 have hK3 : ¬ (K : Int) < 0 := by omega
 have hne : ((spV p f 0) != (spV p f 0)) = false := by simp
 have HK := Lib.hid hK
 clear hK
 go_enter Try.func9, Try.ntmps9
 go_upto_region 1 with (fail)
 obtain ⟨wo, hwo⟩ : ∃ wo : World, wo = (w.alloc (.cells (zb 64 f) 22)) := ⟨_, rfl⟩
 have B0 : Blk wo w.heap.size 64 22 f := by subst hwo; have := Blk.new w 64 22 f; simpa using this
 have hb : Below w.heap.size w wo := by subst hwo; exact ((Below.refl _ _).alloc (Nat.le_refl _) _)
 rw [← hwo]
 clear hwo
 go_upto_region 2 with (first | refine zlb rfl 22 _ rfl _ rfl 64 22 _ (B0) 5 Try.underlying22 Try.size22 ?_ | (go_at_call 26; refine (toPoly_any _ hf _).mono ?_; rintro e W1 ⟨rfl, h1⟩; replace B0 := B0.zw h1; replace hb := hb.trans (h1.mono hb.size)) | (go_at_call 42; refine (spec_FactorsOf_any p f hf _).mono ?_; rintro e W2 ⟨v1, rfl, S1, h2⟩; have hzS1 := hb.size; have hltS1 := B0.lt; replace B0 := B0.zw h2; replace hb := hb.trans (h2.mono hb.size)))
 obtain ⟨a1, cap1, rfl⟩ : ∃ a cap, v1 = .slice a (fcR p f).length cap := by
  rcases S1.shape with ⟨h1, h2⟩ | ⟨g, cap, h1⟩
  · have h3 := congrArg List.length h2
    rw [facRows_len] at h3
    exact ⟨_, _, by rw [h1, show (fcR p f).length = 0 from h3]⟩
  · exact ⟨_, _, by rw [h1, facRows_len]⟩
 obtain ⟨base1, hb1⟩ : ∃ b, b = W1.heap.size := ⟨_, rfl⟩
 rw [← hb1] at S1
 have T1 := S1.top
 obtain ⟨top1, ht1⟩ : ∃ b, b = W2.heap.size := ⟨_, rfl⟩
 rw [← ht1] at T1
 have hsz := Nat.le_of_eq ht1
 clear hb1 ht1 S1
 have Z1 : SzG top1 W2 := hsz
 go_upto_region 3 with (first | refine zlb rfl 22 _ rfl _ rfl 64 22 _ (B0) 5 Try.underlying22 Try.size22 ?_ | (go_at_call 26; refine (toPoly_any _ hf _).mono ?_; rintro e W1 ⟨rfl, h1⟩; replace B0 := B0.zw h1; replace T1 := T1.zw h1; replace Z1 := Z1.zw h1; replace hb := hb.trans (h1.mono hb.size)) | (go_at_call 43; refine (impl_FactorsOf_any p f hf _).mono ?_; rintro e W4 ⟨v2, rfl, S2, h2⟩; have hzS2 := hb.size; have hltS2 := B0.lt; replace B0 := B0.zw h2; replace T1 := T1.zw h2; replace hb := hb.trans (h2.mono hb.size)))
 obtain ⟨a2, cap2, rfl⟩ : ∃ a cap, v2 = .slice a (fcR p f).length cap := by
  rcases S2.shape with ⟨h1, h2⟩ | ⟨g, cap, h1⟩
  · have h3 := congrArg List.length h2
    rw [facRows_len] at h3
    exact ⟨_, _, by rw [h1, show (fcR p f).length = 0 from h3]⟩
  · exact ⟨_, _, by rw [h1, facRows_len]⟩
 have hap : ∀ r, (Value.slice a1 (fcR p f).length cap1).ownBlock = some r → ∀ r2, (Value.slice a2 (fcR p f).length cap2).ownBlock = some r2 → r ≠ r2 := fun r hr r2 hr2 => by
  have e1 := T1.2 r hr
  have e2 := S2.own r2 hr2
  have e3 := Z1.lt
  omega
 obtain ⟨base2, hb2⟩ : ∃ b, b = W1.heap.size := ⟨_, rfl⟩
 rw [← hb2] at S2 hzS2
 have S1 := T1.1
 have HAP := Lib.hid hap
 have hwb : w.heap.size < base2 := by rw [hb2]; exact hltS2
 clear hb2 T1 Z1 hap hsz
 go_upto_region 6 with (first | (go_at_call 44; refine (eqFactorS_same p.toNat (fcR p f) a2 a1 cap2 cap1 base2 base1 _ S2 S1 hR).mono ?_; rintro e W5 ⟨rfl, h2⟩; replace B0 := B0.zw h2; replace S1 := S1.zw h2; replace S2 := S2.zw h2; replace hb := hb.trans (h2.mono hb.size)))
 go_upto_region 8 with (first | (go_at_call 45; refine (markFactorS_any (fcR p f).length a2 cap2 base2 _ (S2.marks (facRows_len ..)) hR).mono ?_; rintro e W6 ⟨rfl, M2, hG⟩; rw [← HK.out]))
 have hown := S2.own
 replace B0 := B0.grownO hG hown (base := base2) hwb
 replace hb := hb.grown hG hb.size (fun k e => Nat.le_trans (Nat.le_of_lt hwb) (hown k e))
 replace S1 := slL_apart S1 hG (by
  cases hv : (Value.slice a1 (fcR p f).length cap1).ownBlock with
  | none => exact .inl rfl
  | some r =>
   refine .inr fun h => ?_
   exact HAP.out r hv r h.symm rfl)
 clear S2 hG hown
 go_upto_region 13 with (first | (go_at_call 46; refine (heldFactorS_any (fcR p f).length a2 cap2 base2 _ M2 hR).mono ?_; rintro e wS ⟨rfl, rfl⟩; rw [← HK.out]))
 go_upto_region 14 with (first | refine zlb rfl 22 _ rfl _ rfl 64 22 _ (B0) 5 Try.underlying22 Try.size22 ?_ | (go_at_call 26; refine (toPoly_any _ hf _).mono ?_; rintro e W1 ⟨rfl, h1⟩; replace B0 := B0.zw h1; replace S1 := S1.zw h1; replace M2 := M2.below h1; replace hb := hb.trans (h1.mono hb.size)) | (go_at_call 43; refine (impl_FactorsOf_any p f hf _).mono ?_; rintro e W8 ⟨v3, rfl, S3, h2⟩; have hzS3 := hb.size; have hltS3 := B0.lt; replace B0 := B0.zw h2; replace S1 := S1.zw h2; replace M2 := M2.below h2; replace hb := hb.trans (h2.mono hb.size)))
 obtain ⟨a3, cap3, rfl⟩ : ∃ a cap, v3 = .slice a (fcR p f).length cap := by
  rcases S3.shape with ⟨h1, h2⟩ | ⟨g, cap, h1⟩
  · have h3 := congrArg List.length h2
    rw [facRows_len] at h3
    exact ⟨_, _, by rw [h1, show (fcR p f).length = 0 from h3]⟩
  · exact ⟨_, _, by rw [h1, facRows_len]⟩
 go_upto_region 17 with (first | (go_at_call 44; refine (eqFactorS_same p.toNat (fcR p f) a3 a1 cap3 cap1 _ base1 _ S3 S1 hR).mono ?_; rintro e W9 ⟨rfl, h2⟩; replace B0 := B0.zw h2; replace M2 := M2.below h2; replace hb := hb.trans (h2.mono hb.size)))
 clear S3 S1
 go_wp2_with (first | (go_at_call 46; refine (heldFactorS_any (fcR p f).length a2 cap2 base2 _ M2 hR).mono ?_; rintro e wS ⟨rfl, rfl⟩; rw [← HK.out]))
 go_ret
 exact ⟨rfl, hb⟩
end Go.Proofs.Ytoncepgcfifgbaa
end
