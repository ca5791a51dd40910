/-
  What the rows of this claim rest on: arrays of bytes, walks of the functions, plain mathematics.
-/
import Derived.Test.YtoncepgcfifgbaaZb7
import Derived.WalkKit
import Derived.WalkSpells
import Derived.WalkLawsBesides
import Derived.Lib.Hide
import Derived.Laws.Rows
import Derived.Laws.CopyOwn
import Derived.Deep.QuietTactic
import Derived.Deep.WholeRow
import Derived.Deep.Draws
import Derived.Deep.MidRow
import Derived.Deep.CutRange
import Derived.Deep.DeepCutAuto
import Derived.Deep.RegionHeld3
import Derived.BigQuiet
import Derived.BigRegion
import Derived.Test.YtoncepgcfifgbaaRows
import Derived.Great.BuildSlice
import Derived.Laws.Tables
import Derived.Laws.StructEq
import Derived.ScopeJumps
import Derived.Deep.CutBlock
import Derived.OwnWalk
import Derived.RangeFuncNested
import Derived.RangeFuncBound
import Derived.RangeFuncCalls
import Derived.RangeFuncLeaves
import Derived.Shelf.Abstract
import Derived.Shelf.RegionOpen
import Derived.OwnWalkIn
import Derived.TacticsInMore
import Derived.LoopNIn
import Derived.LoopIn
import Derived.Maps.OwnOps
import Derived.DeepKeys4
import Derived.Carry
import Derived.Test.YtoncepgcfifgbaaProg
import Derived.OpenShut
section
namespace Go.Proofs.Ytoncepgcfifgbaa
open Go Go.RowKit
set_option linter.unusedVariables false
set_option linter.unusedSimpArgs false
attribute [local irreducible] deg facRows run
/-- the sign s changed for each factor, and 0 if one comes more than once -/
def moG : Int → List (Nat × Nat) → Int
 | s, [] => s
 | s, x :: l => if 1 < x.2 then 0 else moG (-s) l
theorem moG_end {s : Int} {R : List (Nat × Nat)} {j : Nat} (h : R.length ≤ j) : moG s (R.drop j) = s := by rw [List.drop_eq_nil_of_le h]; rfl
theorem moG_zero {s : Int} {R : List (Nat × Nat)} {j : Nat} {x : Nat × Nat} (h : R[j]? = some x) (h2 : 1 < x.2) : moG s (R.drop j) = 0 := by
 obtain ⟨hj, e⟩ := List.getElem?_eq_some_iff.1 h
 rw [List.drop_eq_getElem_cons hj, e]; unfold moG; rw [if_pos h2]
theorem moG_next {s : Int} {R : List (Nat × Nat)} {j : Nat} {x : Nat × Nat} (h : R[j]? = some x) (h2 : ¬ 1 < x.2) : moG s (R.drop j) = moG (-s) (R.drop (j + 1)) := by
 obtain ⟨hj, e⟩ := List.getElem?_eq_some_iff.1 h
 rw [List.drop_eq_getElem_cons hj, e]; rw [moG, if_neg h2]
/-- both answers -/
def moV (p : Int) (f : Nat → Nat) : Int × Int := if spV p f 0 = 0 then (moG 1 (run p.toNat 64 1 f), 0) else (0, spV p f 0)
theorem moV_bad {p c : Int} {f : Nat → Nat} (h : spV p f 0 = c) (h2 : c ≠ 0) : moV p f = (0, c) := by unfold moV; rw [h, if_neg h2]
theorem moV_ok {n : Nat} {f : Nat → Nat} (h : spV (n : Int) f 0 = 0) : moV (n : Int) f = (moG 1 (run n 64 1 f), 0) := by unfold moV; rw [if_pos h]; rfl
set_option maxRecDepth 100000 in
set_option maxHeartbeats 3200000 in
theorem spec_MoebiusOf_any (p : Int) (f : Nat → Nat) (hf : byte f) (w : World) :
 Calls Try.prog 47 #[.int .i64 p, .agg (zb 64 f)] w fun e w' => e = .returned (.tuple #[.int .i64 (moV p f).1, .int .i64 (moV p f).2]) ∧ Below w.heap.size w w' := by
 go_enter Try.func47, Try.ntmps47
 go_upto_region 1 with (fail)
 obtain ⟨W1, hwo⟩ : ∃ v : World, v = (w.alloc (.cells (zb 64 (f)) 23)) := ⟨_, rfl⟩
 have B0 : Blk W1 (w.heap.size) 64 23 (f) := by subst hwo; have := (Blk.new w 64 23 (f)); simpa using this
 have hb : Below w.heap.size w W1 := by subst hwo; exact ((Below.refl _ _).alloc (Nat.le_refl _) _)
 rw [← hwo]
 clear hwo
 go_upto_region 2 with (first | (refine zla (.tmp 3) B0 Try.underlying23 Try.size23 ?_) | (go_at_call 103; refine (l02Degree_any p f hf 0 (by decide) (by decide) _).mono ?_; rintro e W2 ⟨rfl, hW2⟩; replace B0 := B0.zw hW2; replace hb := (hb).trans (hW2.mono (hb).size)))
 rcases spV_cases (p := p) (f := f) (lo := 0) with ⟨c, hs, hc0, hc12⟩ | ⟨hs, hc, hr1, hr2⟩
 · have HV := Lib.hid (moV_bad hs hc0)
   rw [hs]
   clear hs
   have hb1 : ((c : Int) != 0) = true := by simp [hc0]
   go_wp2_with fail
   go_ret2
   exact ⟨by rw [HV.out]; rfl, hb⟩
 · obtain ⟨n, hn, n2, n7⟩ := okP_nat (codeL_zero hc).1
   subst hn
   have lf := lt_of_code hc (f := f) (by simp)
   have hpr := prime_of hc
   have HV0 := Lib.hid (moV_ok hs)
   rw [hs]
   clear hs hc
   obtain ⟨R, hR⟩ : ∃ R, R = run n 64 1 f := ⟨_, rfl⟩
   have HFA := Lib.hid (show ∀ W, Calls Try.prog 110 #[.int .i64 (n : Int), .agg (zb 64 f)] W fun e w' => ∃ v, e = .returned v ∧ SlL w' W.heap.size 100 65 v (facRows n R) ∧ Below W.heap.size W w' by
    intro W
    have := l02Split_any n f W hpr lf (by omega) (by omega)
    unfold FaF at this
    rw [← hR] at this
    exact this)
   have hRk := run_ok hpr lf hr1 hr2
   rw [← hR] at HV0 hRk
   obtain ⟨hR12, HWT, HEL⟩ := hRk
   clear hR HWT HEL
   go_upto_region 4 with (fail)
   go_upto_region 5 with (first | (refine zla (.tmp 3) B0 Try.underlying23 Try.size23 ?_) | (go_at_call 110; refine (HFA.out _).mono ?_; rintro e W3 ⟨lst, rfl, hS, hW3⟩; replace B0 := B0.zw hW3; have hbw := hb.size; replace hb := (hb).trans (hW3.mono (hb).size); replace hS := hS.base hbw; obtain ⟨a0, cap, rfl⟩ : ∃ a cap, lst = .slice a R.length cap := (by rcases hS.shape with ⟨h1, h2⟩ | ⟨g, cap, h1⟩; (· have h3 := congrArg List.length h2; rw [facRows_len] at h3; exact ⟨_, _, by rw [h1, show R.length = 0 from h3]⟩); (· exact ⟨_, _, by rw [h1, facRows_len]⟩))))
   clear HFA hW3 hbw
   try clear hf
   go_wp2_with fail
   go_loopw [8, 9] (fun s i wr => ∃ (j : Nat) (s0 : Int), s = .int .i64 s0 ∧ i = .int .i64 (j : Int) ∧ j ≤ R.length ∧ (s0 = 1 ∨ s0 = -1) ∧ Hid (moG 1 R = moG s0 (R.drop j)) ∧ Below w.heap.size w wr ∧ SlL wr w.heap.size 100 65 (.slice a0 R.length cap) (facRows n R)) (fun _ i _ => R.length - (intOf i).toNat)
   case atStart => exact ⟨0, 1, rfl, rfl, Nat.zero_le _, .inl rfl, Lib.hid rfl, hb, hS⟩
   case round =>
    clear hb hS B0
    obtain ⟨j, s0, rfl, rfl, hjR, hs0, hM, hb, hS⟩ := hrel
    by_cases hj : j < R.length
    · obtain ⟨x, hx⟩ : ∃ x, R[j]? = some x := ⟨_, List.getElem?_eq_getElem hj⟩
      obtain ⟨g, rfl⟩ := hS.some (by rw [facRows_len]; omega)
      have hr := hS.range (i := j) (c := facC (ofN n x.1) x.2) (by unfold facRows; rw [List.getElem?_map, hx]; rfl)
      have hjl : (j : Int) < (R.length : Int) := by omega
      have cc := hr 64 (.int .i64 (x.2 : Int)) (by simpa using facC_at (ofN n x.1) x.2)
      clear hr
      by_cases h1 : 1 < x.2
      · have hx1 : 1 < (x.2 : Int) := by omega
        have HV := Lib.hid (show moV (n : Int) f = (0, 0) by rw [HV0.out, hM.out, moG_zero hx h1])
        go_wp2_with fail
        go_ret2
        exact ⟨by rw [HV.out]; rfl, hb⟩
      · have hx1 : ¬ 1 < (x.2 : Int) := by omega
        have HM2 := Lib.hid (show moG 1 R = moG (-s0) (R.drop (j + 1)) by rw [hM.out, moG_next hx h1])
        clear hM
        go_wp2_with fail
        go_roundw
        case rel => exact ⟨j + 1, -s0, rfl, by go_num, by omega, by omega, HM2, hb, hS⟩
        case measure => simp [intOf] <;> omega
    · have hjl : ¬ (j : Int) < (R.length : Int) := by omega
      have HV := Lib.hid (show moV (n : Int) f = (s0, 0) by rw [HV0.out, hM.out, moG_end (by omega)])
      go_wp2_with fail
      go_ret2
      exact ⟨by rw [HV.out]; rfl, hb⟩
set_option maxRecDepth 100000 in
set_option maxHeartbeats 3200000 in
theorem impl_MoebiusOf_any (p : Int) (f : Nat → Nat) (hf : byte f) (w : World) :
 Calls Try.prog 48 #[.int .i64 p, .agg (zb 64 f)] w fun e w' => e = .returned (.tuple #[.int .i64 (moV p f).1, .int .i64 (moV p f).2]) ∧ Below w.heap.size w w' := by
 go_enter Try.func48, Try.ntmps48
 go_upto_region 1 with (fail)
 obtain ⟨W1, hwo⟩ : ∃ v : World, v = (w.alloc (.cells (zb 64 (f)) 23)) := ⟨_, rfl⟩
 have B0 : Blk W1 (w.heap.size) 64 23 (f) := by subst hwo; have := (Blk.new w 64 23 (f)); simpa using this
 have hb : Below w.heap.size w W1 := by subst hwo; exact ((Below.refl _ _).alloc (Nat.le_refl _) _)
 rw [← hwo]
 clear hwo
 go_upto_region 2 with (first | (refine zla (.tmp 3) B0 Try.underlying23 Try.size23 ?_) | (go_at_call 106; refine (checkSplit_any p f hf 0 (by decide) (by decide) _).mono ?_; rintro e W2 ⟨rfl, hW2⟩; replace B0 := B0.zw hW2; replace hb := (hb).trans (hW2.mono (hb).size)))
 rcases spV_cases (p := p) (f := f) (lo := 0) with ⟨c, hs, hc0, hc12⟩ | ⟨hs, hc, hr1, hr2⟩
 · have HV := Lib.hid (moV_bad hs hc0)
   rw [hs]
   clear hs
   have hb1 : ((c : Int) != 0) = true := by simp [hc0]
   go_wp2_with fail
   go_ret2
   exact ⟨by rw [HV.out]; rfl, hb⟩
 · obtain ⟨n, hn, n2, n7⟩ := okP_nat (codeL_zero hc).1
   subst hn
   have lf := lt_of_code hc (f := f) (by simp)
   have hpr := prime_of hc
   have HV0 := Lib.hid (moV_ok hs)
   rw [hs]
   clear hs hc
   obtain ⟨R, hR⟩ : ∃ R, R = run n 64 1 f := ⟨_, rfl⟩
   have HFA := Lib.hid (show ∀ W, Calls Try.prog 111 #[.int .i64 (n : Int), .agg (zb 64 f)] W fun e w' => ∃ v, e = .returned v ∧ SlL w' W.heap.size 100 65 v (facRows n R) ∧ Below W.heap.size W w' by
    intro W
    have := factorsOf_any n f W hpr lf (by omega) (by omega)
    unfold FaF at this
    rw [← hR] at this
    exact this)
   have hRk := run_ok hpr lf hr1 hr2
   rw [← hR] at HV0 hRk
   obtain ⟨hR12, HWT, HEL⟩ := hRk
   clear hR HWT HEL
   go_upto_region 4 with (fail)
   go_upto_region 5 with (fail)
   go_upto_region 6 with (first | (refine zla (.tmp 3) B0 Try.underlying23 Try.size23 ?_) | (go_at_call 111; refine (HFA.out _).mono ?_; rintro e W3 ⟨lst, rfl, hS, hW3⟩; replace B0 := B0.zw hW3; have hbw := hb.size; replace hb := (hb).trans (hW3.mono (hb).size); replace hS := hS.base hbw; obtain ⟨a0, cap, rfl⟩ : ∃ a cap, lst = .slice a R.length cap := (by rcases hS.shape with ⟨h1, h2⟩ | ⟨g, cap, h1⟩; (· have h3 := congrArg List.length h2; rw [facRows_len] at h3; exact ⟨_, _, by rw [h1, show R.length = 0 from h3]⟩); (· exact ⟨_, _, by rw [h1, facRows_len]⟩))))
   clear HFA hW3 hbw
   try clear hf
   go_wp2_with fail
   go_loopw [7, 20] (fun s i wr => ∃ (j : Nat) (s0 : Int), s = .int .i64 s0 ∧ i = .int .i64 (j : Int) ∧ j ≤ R.length ∧ (s0 = 1 ∨ s0 = -1) ∧ Hid (moG 1 R = moG s0 (R.drop j)) ∧ Below w.heap.size w wr ∧ SlL wr w.heap.size 100 65 (.slice a0 R.length cap) (facRows n R)) (fun _ i _ => R.length - (intOf i).toNat)
   case atStart => exact ⟨0, 1, rfl, rfl, Nat.zero_le _, .inl rfl, Lib.hid rfl, hb, hS⟩
   case round =>
    clear hb hS B0
    obtain ⟨j, s0, rfl, rfl, hjR, hs0, hM, hb, hS⟩ := hrel
    by_cases hj : j < R.length
    · obtain ⟨x, hx⟩ : ∃ x, R[j]? = some x := ⟨_, List.getElem?_eq_getElem hj⟩
      obtain ⟨g, rfl⟩ := hS.some (by rw [facRows_len]; omega)
      have hr := hS.range (i := j) (c := facC (ofN n x.1) x.2) (by unfold facRows; rw [List.getElem?_map, hx]; rfl)
      have hjl : (j : Int) < (R.length : Int) := by omega
      have B1 := hS.top
      have B2 : SzG wr.heap.size wr := Nat.le_refl _
      clear hS
      go_upto_region 7 with (fail)
      have lt_B1 := B1.lt
      have lt_B2 := B2.lt
      go_upto_region 8 with (first | rw [← z64] | rw [← facC_zero] | (refine wpList_load_mid rfl 100 (.tmp 22) rfl g (j * 65) rfl (facC (ofN n x.1) x.2) _ hr Try.underlying100 rfl (by rw [facC_len]; exact Try.size100) ?_) | (refine wpList_store_rowv rfl 100 (.tmp 9) (.tmp 23) rfl _ rfl (facC (ofN n x.1) x.2).toArray rfl 100 _ ((Row.new wr 100 (facC (fun _ => 0) 0).toArray)) 65 Try.size100 (by simp [facC_len]) (by simp [facC_len]) (facC_all _ _) ?_; try simp only [Act.put]))
      have lt_B1 := B1.lt
      have lt_B2 := B2.lt
      have lhb := hb.size
      obtain ⟨W4, hwo, hzQ⟩ : ∃ v : World, v = ((wr.alloc (.cells (facC (fun _ => 0) 0).toArray 100)).setRow (wr.heap.size) (facC (ofN n x.1) x.2).toArray) ∧ SlT v w.heap.size wr.heap.size 100 65 (.slice (some ⟨g, 0, none⟩) R.length cap) (facRows n R) ∧ SzG wr.heap.size v ∧ Row v (wr.heap.size) 100 (facC (ofN n x.1) x.2).toArray ∧ Below w.heap.size w v := ⟨_, rfl, ((B1.alloc (.cells (facC (fun _ => 0) 0).toArray 100)).rowOther (by omega)), ((B2.alloc (.cells (facC (fun _ => 0) 0).toArray 100)).rowOther (by omega)), ((Row.new wr 100 (facC (fun _ => 0) 0).toArray).row (facC (ofN n x.1) x.2).toArray), (zr (hb.alloc (by have := hb.size; simp; omega) (.cells (facC (fun _ => 0) 0).toArray 100)) (by omega) _)⟩
      rw [← hwo]
      clear hwo B1 B2 hb
      obtain ⟨B1, B2, B3, hb⟩ := hzQ
      obtain ⟨N1, hNN⟩ : ∃ n : Nat, n = wr.heap.size := ⟨_, rfl⟩
      rw [← hNN] at lt_B1 lt_B2 lhb B3 ⊢
      clear hNN
      have zN1_1 := lt_B1
      have zN1_2 := lt_B2
      have zN1 := lhb
      clear lt_B1 lt_B2 lhb
      try simp only [Act.put, pA, pB, pC]
      have cc := B3.cell (facC_at _ _)
      clear hr
      by_cases h1 : 1 < x.2
      · have hx1 : 1 < (x.2 : Int) := by omega
        have HV := Lib.hid (show moV (n : Int) f = (0, 0) by rw [HV0.out, hM.out, moG_zero hx h1])
        go_wp2_with fail
        go_ret2
        exact ⟨by rw [HV.out]; rfl, hb⟩
      · have hx1 : ¬ 1 < (x.2 : Int) := by omega
        have HM2 := Lib.hid (show moG 1 R = moG (-s0) (R.drop (j + 1)) by rw [hM.out, moG_next hx h1])
        clear hM
        go_wp2_with fail
        go_roundw
        case rel => exact ⟨j + 1, -s0, rfl, by go_num, by omega, by omega, HM2, hb, B1.1⟩
        case measure => simp [intOf] <;> omega
    · have hjl : ¬ (j : Int) < (R.length : Int) := by omega
      have HV := Lib.hid (show moV (n : Int) f = (s0, 0) by rw [HV0.out, hM.out, moG_end (by omega)])
      go_wp2_with fail
      go_ret2
      exact ⟨by rw [HV.out]; rfl, hb⟩
end Go.Proofs.Ytoncepgcfifgbaa
end
section
namespace Go.Proofs.Ytoncepgcfifgbaa
open Go.RowKit
set_option linter.unusedVariables false
set_option linter.unusedSimpArgs false
set_option maxRecDepth 100000 in
set_option maxHeartbeats 800000 in
theorem FnExactMoebiusOf_walk (p : Int) (f : Nat → Nat) (hf : byte f) (wp : (Lit.int .i64 p).wf = true) (w : World) :
 Calls Try.prog 10 #[.int .i64 p, .agg (zb 64 f)] w fun e w' => e = .returned (.bool true) ∧ Below w.heap.size w w' := by
 have bdp := bounds_i64 wp
 go_enter Try.func10, Try.ntmps10
 go_upto_region 1 with (fail)
 obtain ⟨wo, hwo⟩ : ∃ wo : World, wo = (w.alloc (.cells (zb 64 f) 22)) := ⟨_, rfl⟩
 have bf : Blk wo (w.heap.size) 64 22 f := by subst hwo; have := (Blk.new w 64 22 f); simpa using this
 have hb : Below w.heap.size w wo := by subst hwo; exact ((Below.refl _ _).alloc (Nat.le_refl _) _)
 rw [← hwo]
 clear hwo
 have ha : Below wo.heap.size wo wo := Below.refl _ _
 have hne0 : (((moV p f).1) != ((moV p f).1)) = false := by simp
 have hne1 : (((moV p f).2) != ((moV p f).2)) = false := by simp
 go_wp2_with (first | refine zlb rfl 22 _ rfl _ rfl 64 22 _ (bf.below (by assumption) bf.lt) 5 Try.underlying22 Try.size22 ?_ | (go_at_call 26; refine (acc (toPoly_any _ hf _) (by assumption)).mono ?_; rintro e w1 ⟨rfl, h1, ha⟩) | (go_at_call 47; refine (acc (spec_MoebiusOf_any p f hf _) (by assumption)).mono ?_; rintro e w1 ⟨rfl, h1, ha⟩) | (go_at_call 48; refine (acc (impl_MoebiusOf_any p f hf _) (by assumption)).mono ?_; rintro e w1 ⟨rfl, h1, ha⟩))
 go_ret
 exact ⟨rfl, hb.trans (ha.mono hb.size)⟩
end Go.Proofs.Ytoncepgcfifgbaa
end
