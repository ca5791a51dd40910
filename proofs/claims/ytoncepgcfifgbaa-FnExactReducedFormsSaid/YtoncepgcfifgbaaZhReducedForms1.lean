/-
  What the rows of this claim rest on: arrays of bytes, walks of the functions, plain mathematics.
-/
import Derived.Test.YtoncepgcfifgbaaZh5
import Derived.WalkKit
import Derived.WalkSpells
import Derived.WalkLawsBesides
import Derived.Lib.Hide
import Derived.Laws.Rows
import Derived.Laws.CopyOwn
import Derived.Deep.QuietTactic
import Derived.Deep.WholeRow
import Derived.Deep.Draws
import Derived.Deep.MidRow
import Derived.Deep.CutRange
import Derived.Deep.DeepCutAuto
import Derived.Deep.RegionHeld3
import Derived.BigQuiet
import Derived.BigRegion
import Derived.Test.YtoncepgcfifgbaaRows
import Derived.Great.BuildSlice
import Derived.Laws.Tables
import Derived.Laws.StructEq
import Derived.ScopeJumps
import Derived.Deep.CutBlock
import Derived.OwnWalk
import Derived.RangeFuncNested
import Derived.RangeFuncBound
import Derived.RangeFuncCalls
import Derived.RangeFuncLeaves
import Derived.Shelf.Abstract
import Derived.Shelf.RegionOpen
import Derived.OwnWalkIn
import Derived.TacticsInMore
import Derived.LoopNIn
import Derived.LoopIn
import Derived.Maps.OwnOps
import Derived.DeepKeys4
import Derived.Carry
import Derived.Test.YtoncepgcfifgbaaProg
import Derived.WalkMore
section
namespace Go.Proofs.Ytoncepgcfifgbaa
open Go.RowKit
theorem Blk.drewN {w : World} {b n : Nat} {t : TypeId} {f : Nat → Nat} (h : Blk w b n t f) (k : Nat) : Blk (w.drewN k) b n t f := by unfold Blk at *; exact h
theorem below_drewN' {B : Nat} {a w : World} (h : Below B a w) (n : Nat) : Below B a (w.drewN n) := ⟨h.os, h.tape, h.output, h.size, h.block⟩

end Go.Proofs.Ytoncepgcfifgbaa
end
section
namespace Go.Proofs.Ytoncepgcfifgbaa
open Go.RowKit
set_option linter.unusedVariables false
set_option maxRecDepth 100000 in
set_option maxHeartbeats 400000 in
theorem eqPoly_same (f g : Nat → Nat) (hfg : ∀ i, i < 64 → f i = g i) (w : World) : Calls Try.prog 28 #[.agg (zb 64 f), .agg (zb 64 g)] w fun e w' => e = .returned (.bool true) ∧ Below w.heap.size w w' := by
 rw [zbc (fun i hi => (hfg i hi).symm)]
 go_enter Try.func28, Try.ntmps28
 go_wp2_with fail
 clear hfg
 go_loopw [5] (fun i wr => ∃ k : Nat, k ≤ 64 ∧ i = .int .i64 (k : Int) ∧ Below w.heap.size w wr ∧ Blk wr w.heap.size 64 23 f ∧ Blk wr (w.heap.size + 1) 64 23 f) (fun i _ => 64 - (intOf i).toNat)
 case atStart =>
  refine ⟨0, by omega, rfl, ((Below.refl _ _).alloc (Nat.le_refl _) _).alloc (by simp) _, (Blk.new w _ _ _).alloc _, ?_⟩
  have := Blk.new (w.alloc (.cells (zb 64 f) 23)) 64 23 f; simpa using this
 case round =>
  obtain ⟨k, hk, rfl, hb, h0, h1⟩ := hrel
  by_cases hlt : k < 64
  · have c4 := h0.cell hlt
    have c5 := h1.cell hlt
    have hk0 : (0 : Int) ≤ (k : Int) := by omega
    have hk1 : (k : Int) < 64 := by omega
    have hne : ((f k : Int) != (f k : Int)) = false := by simp
    go_wp2_with fail
    go_quiet (fail)
    go_wp2_with fail
    go_roundw
    case rel => exact ⟨k + 1, by omega, by go_num, below_drewN' hb _, h0.drewN _, h1.drewN _⟩
    case measure => simp [intOf]; omega
  · go_wp2_with fail
    go_ret
    exact ⟨rfl, hb⟩

end Go.Proofs.Ytoncepgcfifgbaa
end
section
namespace Go.Proofs.Ytoncepgcfifgbaa
open Go Go.RowKit
set_option linter.unusedVariables false
set_option linter.unusedSimpArgs false
attribute [local irreducible] deg invN quoP resP prd bzD bzU bzW sqP okA monB dvN
set_option maxRecDepth 100000 in
set_option maxHeartbeats 3200000 in
theorem eqForm_same (A B : Nat → Nat) (w : World) :
 Calls Try.prog 64 #[.agg (frC A B).toArray, .agg (frC A B).toArray] w fun e w' => e = .returned (.bool true) ∧ Below w.heap.size w w' := by
 go_enter Try.func64, Try.ntmps64
 go_upto_region 1 with (fail)
 obtain ⟨W1, hwo⟩ : ∃ v : World, v = ((w.alloc (.cells (frC A B).toArray 55)).alloc (.cells (frC A B).toArray 55)) := ⟨_, rfl⟩
 have B0 : Row W1 (w.heap.size) 55 (frC A B).toArray := by subst hwo; have := ((Row.new w 55 (frC A B).toArray).alloc (.cells (frC A B).toArray 55)); simpa using this
 have B1 : Row W1 (w.heap.size + 1) 55 (frC A B).toArray := by subst hwo; have := (Row.new (w.alloc (.cells (frC A B).toArray 55)) 55 (frC A B).toArray); simpa using this
 have hb : Below w.heap.size w W1 := by subst hwo; exact (((Below.refl _ _).alloc (Nat.le_refl _) _).alloc (by simp) _)
 rw [← hwo]
 clear hwo
 go_upto_region 3 with (first | (refine wpList_load_mid rfl 23 (.tmp 5) rfl _ 0 rfl (bl 64 A) _ (B0.fra) Try.underlying23 rfl (by rw [zl]; exact Try.size23) ?_) | (refine wpList_load_mid rfl 23 (.tmp 7) rfl _ 0 rfl (bl 64 A) _ (B1.fra) Try.underlying23 rfl (by rw [zl]; exact Try.size23) ?_) | (go_at_call 28; refine (eqPoly_same _ _ (fun _ _ => rfl) _).mono ?_; rintro e W2 ⟨rfl, hW2⟩; replace B0 := B0.zw hW2; replace B1 := B1.zw hW2; replace hb := (hb).trans (hW2.mono (hb).size)))
 go_upto_region 5 with (first | (refine wpList_load_mid rfl 23 (.tmp 11) rfl _ 64 rfl (bl 64 B) _ (B0.frb) Try.underlying23 rfl (by rw [zl]; exact Try.size23) ?_) | (refine wpList_load_mid rfl 23 (.tmp 13) rfl _ 64 rfl (bl 64 B) _ (B1.frb) Try.underlying23 rfl (by rw [zl]; exact Try.size23) ?_) | (go_at_call 28; refine (eqPoly_same _ _ (fun _ _ => rfl) _).mono ?_; rintro e W3 ⟨rfl, hW3⟩; replace B0 := B0.zw hW3; replace B1 := B1.zw hW3; replace hb := (hb).trans (hW3.mono (hb).size)))
 go_wp2_with fail
 go_ret
 exact ⟨rfl, hb⟩
end Go.Proofs.Ytoncepgcfifgbaa
end
section
namespace Go.Proofs.Ytoncepgcfifgbaa
open Go Go.RowKit
set_option linter.unusedVariables false
set_option linter.unusedSimpArgs false
theorem grown_trans {w w1 w2 : World} {row : Option Nat} (h1 : w.grownBy w1 row) (h2 : w1.grownBy w2 row) : w.grownBy w2 row :=
 ⟨h2.os.trans h1.os, h2.tape.trans h1.tape, h2.output.trans h1.output, Nat.le_trans h1.size h2.size, fun k hk hr => (h2.block k (Nat.lt_of_lt_of_le hk h1.size) hr).trans (h1.block k hk hr)⟩
theorem grown_refl (w : World) (row : Option Nat) : w.grownBy w row := ⟨rfl, rfl, rfl, Nat.le_refl _, fun _ _ _ => rfl⟩
theorem slL_apart {w w' : World} {base size : Nat} {e : TypeId} {v : Value} {cs : List (List Value)} {row : Option Nat} (h : SlL w base e size v cs) (hg : w.grownBy w' row) (hr : v.ownBlock = none ∨ v.ownBlock ≠ row) : SlL w' base e size v cs := by
 delta SlL at *
 exact ⟨Nat.le_trans h.1 hg.size, h.2.1, h.2.2.kept hg hr⟩
attribute [local irreducible] mkF MkF
end Go.Proofs.Ytoncepgcfifgbaa
end
section
namespace Go.Proofs.Ytoncepgcfifgbaa
open Go Go.RowKit
set_option linter.unusedVariables false
set_option linter.unusedSimpArgs false
attribute [local irreducible] frC
set_option maxRecDepth 100000 in
set_option maxHeartbeats 3200000 in
theorem eqFormS_same (N : Nat) (R : List ((Nat → Nat) × (Nat → Nat))) (a1 a2 : Option Addr) (cap1 cap2 base1 base2 : Nat) (w : World) (h1 : SlL w base1 55 128 (.slice a1 R.length cap1) (frRows R)) (h2 : SlL w base2 55 128 (.slice a2 R.length cap2) (frRows R)) (hR : R.length ≤ 3000) :
 Calls Try.prog 67 #[.slice a1 R.length cap1, .slice a2 R.length cap2] w fun e w' => e = .returned (.bool true) ∧ Below w.heap.size w w' := by
 go_enter Try.func67, Try.ntmps67
 go_wp2_with fail
 go_loopw [5] (fun i wr => ∃ j : Nat, i = .int .i64 (j : Int) ∧ j ≤ R.length ∧ Below w.heap.size w wr) (fun i _ => R.length - (intOf i).toNat)
 case atStart => exact ⟨0, rfl, Nat.zero_le _, Below.refl _ _⟩
 case round =>
  obtain ⟨j, rfl, hjR, hb⟩ := hrel
  by_cases hj : j < R.length
  · obtain ⟨x, hx⟩ : ∃ x, R[j]? = some x := ⟨_, List.getElem?_eq_getElem hj⟩
    obtain ⟨A, B⟩ := x
    obtain ⟨g1, rfl⟩ := h1.some (by rw [frRows_len]; omega)
    obtain ⟨g2, rfl⟩ := h2.some (by rw [frRows_len]; omega)
    have hrow : (frRows R)[j]? = some (frC A B) := by unfold frRows; rw [List.getElem?_map, hx]; rfl
    have B0 : SlL wr base1 55 128 (.slice (some ⟨g1, 0, none⟩) R.length cap1) (frRows R) := h1.zw hb
    have B1 : SlL wr base2 55 128 (.slice (some ⟨g2, 0, none⟩) R.length cap2) (frRows R) := h2.zw hb
    have hjl : (j : Int) < (R.length : Int) := by omega
    clear h1 h2
    go_upto_region 6 with (fail)
    refine zq Try.mixed (by kernel_rfl) (by kernel_rfl) (fun v => by (simp only [frL, Act.put, pA, pB, pC, Nat.reduceAdd, Nat.zero_add]; exact rfl))
     (fun L v W1 => Below wr.heap.size wr W1 ∧ VF L v [some (.slice (some ⟨g1, 0, none⟩) R.length cap1), some (.int .i64 (j : Int)), some (.pointer (some ⟨g1, j * 128, none⟩)), some (.agg (frC A B).toArray), some (.slice (some ⟨g2, 0, none⟩) R.length cap2), some (.int .i64 (j : Int)), some (.pointer (some ⟨g2, j * 128, none⟩)), some (.agg (frC A B).toArray), some (.bool true), some (.bool false)]) ?_ ?_ ?_
    · intro v hv0
      exact ⟨(Below.refl _ wr).drew, VF.start⟩
    · refine (.cons rfl ?_ (.cons rfl ?_ (.cons rfl ?_ (.cons rfl ?_ (.cons rfl ?_ (.cons rfl ?_ (.cons rfl ?_ (.cons rfl ?_ (.cons rfl ?_ (.cons rfl ?_ (.nil _)))))))))))
      all_goals intro L v W1 hd hn ⟨hY, V⟩ K hK
      · go_wp2_with fail
        exact hK _ (.slice (some ⟨g1, 0, none⟩) R.length cap1) _ (by simp only [Act.put, pA, pB, pC ]) ⟨hY, V.step 0 rfl⟩
      · go_wp2_with fail
        exact hK _ (.int .i64 (j : Int)) _ (by simp only [Act.put, pA, pB, pC ]) ⟨hY, V.step 1 rfl⟩
      · have e0 := V.at (zdq hd 0 rfl) rfl
        have e1 := V.at (zdq hd 1 rfl) rfl
        go_wp2_with fail
        exact hK _ (.pointer (some ⟨g1, j * 128, none⟩)) _ (by simp only [Act.put, pA, pB, pC, e0, e1]) ⟨hY, V.step 2 rfl⟩
      · have e2 := V.at (zdq hd 2 rfl) rfl
        have hr := ((B0.zw hY)).range hrow
        refine wp_load_mid 55 _ rfl _ (j * 128) e2 _ _ hr Try.underlying55 rfl (by rw [frC_len]; exact Try.size55) ?_
        exact hK _ _ _ rfl ⟨hY, V.step 3 rfl⟩
      · go_wp2_with fail
        exact hK _ (.slice (some ⟨g2, 0, none⟩) R.length cap2) _ (by simp only [Act.put, pA, pB, pC ]) ⟨hY, V.step 4 rfl⟩
      · go_wp2_with fail
        exact hK _ (.int .i64 (j : Int)) _ (by simp only [Act.put, pA, pB, pC ]) ⟨hY, V.step 5 rfl⟩
      · have e4 := V.at (zdq hd 4 rfl) rfl
        have e5 := V.at (zdq hd 5 rfl) rfl
        go_wp2_with fail
        exact hK _ (.pointer (some ⟨g2, j * 128, none⟩)) _ (by simp only [Act.put, pA, pB, pC, e4, e5]) ⟨hY, V.step 6 rfl⟩
      · have e6 := V.at (zdq hd 6 rfl) rfl
        have hr := ((B1.zw hY)).range hrow
        refine wp_load_mid 55 _ rfl _ (j * 128) e6 _ _ hr Try.underlying55 rfl (by rw [frC_len]; exact Try.size55) ?_
        exact hK _ _ _ rfl ⟨hY, V.step 7 rfl⟩
      · have e3 := V.at (zdq hd 3 rfl) rfl
        have e7 := V.at (zdq hd 7 rfl) rfl
        go_wp2_with (go_at_call 64; refine (eqForm_same _ _ _).mono ?_; rintro e wy ⟨rfl, hy⟩)
        exact hK _ (.bool true) _ (by simp only [Act.put, pA, pB, pC, e3, e7]) ⟨hY.trans (hy.mono hY.size), V.step 8 rfl⟩
      · have e8 := V.at (zdq hd 8 rfl) rfl
        go_wp2_with fail
        exact hK _ (.bool false) _ (by simp only [Act.put, pA, pB, pC, e8]) ⟨hY, V.step 9 rfl⟩
    · intro L v W1 hL ⟨hY, V⟩
      have e0 := V.at (hL 0 (by decide)) rfl
      have e1 := V.at (hL 1 (by decide)) rfl
      have e2 := V.at (hL 2 (by decide)) rfl
      have e3 := V.at (hL 3 (by decide)) rfl
      have e4 := V.at (hL 4 (by decide)) rfl
      have e5 := V.at (hL 5 (by decide)) rfl
      have e6 := V.at (hL 6 (by decide)) rfl
      have e7 := V.at (hL 7 (by decide)) rfl
      have e8 := V.at (hL 8 (by decide)) rfl
      have e9 := V.at (hL 9 (by decide)) rfl
      clear hL V
      replace B0 := B0.zw hY
      replace B1 := B1.zw hY
      replace hb := hb.trans (hY.mono hb.size)
      clear hY
      simp only [Exit.then, e0, e1, e2, e3, e4, e5, e6, e7, e8, e9]
      clear e0 e1 e2 e3 e4 e5 e6 e7 e8 e9
      go_wp2_with fail
      go_roundw
      case rel => exact ⟨j + 1, by go_num, by omega, hb⟩
      case measure => simp [intOf] <;> omega
  · have hjl : ¬ (j : Int) < (R.length : Int) := by omega
    go_wp2_with fail
    go_ret
    exact ⟨rfl, hb⟩
theorem mkE_u (q : Nat) : mkE q = .int .u8 ((1 + (q : Int)) % 256) := rfl
theorem mkE_some {w : World} {base n q cap : Nat} {a : Option Addr} (h : MkE w base (.slice a n cap) n q) (hn : 0 < n) : ∃ g, a = some ⟨g, 0, none⟩ := by
 obtain ⟨ys, h1, _⟩ := h
 rcases h1.2 with ⟨h2, h3⟩ | ⟨g, c, cur, h2, _⟩
 · omega
 · injection h2 with h2; exact ⟨g, h2⟩
theorem SlL.marksE {w : World} {base n : Nat} {v : Value} {cs : List (List Value)} (h : SlL w base 55 128 v cs) (hn : cs.length = n) : MkE w base v n 0 := by
 delta SlL at h
 exact ⟨cs.flatten, hn ▸ h.2.2, fun k hk => absurd hk (by omega)⟩
attribute [local irreducible] mkE MkE
set_option maxRecDepth 100000 in
set_option maxHeartbeats 3200000 in
theorem markFormS_any (n : Nat) (a0 : Option Addr) (cap base : Nat) (w : World) (h : MkE w base (.slice a0 n cap) n 0) (hn : n ≤ 3000) :
 Calls Try.prog 68 #[.slice a0 n cap, .int .i64 1] w fun e w' => e = .returned (.int .i64 ((1 + 128 * n : Nat) : Int)) ∧ MkE w' base (.slice a0 n cap) n (128 * n) ∧ w.grownBy w' (Value.slice a0 n cap).ownBlock := by
 go_enter Try.func68, Try.ntmps68
 go_wp2_with fail
 go_loopw [1, 5] (fun x i wr => ∃ j X : Nat, x = .int .i64 (X : Int) ∧ X = 1 + 128 * j ∧ i = .int .i64 (j : Int) ∧ j ≤ n ∧ MkE wr base (.slice a0 n cap) n (128 * j) ∧ w.grownBy wr (Value.slice a0 n cap).ownBlock) (fun _ i _ => n - (intOf i).toNat)
 case atStart => exact ⟨0, 1, rfl, rfl, rfl, Nat.zero_le _, h, grown_refl _ _⟩
 case round =>
  clear h
  obtain ⟨j, X, rfl, hX, rfl, hjn, hM, hG⟩ := hrel
  by_cases hj : j < n
  · have hjl : (j : Int) < (n : Int) := by omega
    obtain ⟨g, rfl⟩ := mkE_some hM (by omega)
    have hX2 : X ≤ 400000 := by omega
    have HX := Lib.hid hX
    clear hX
    go_wp2_with fail
    go_loopw [1, 6] (fun x i wr2 => ∃ k X : Nat, x = .int .i64 (X : Int) ∧ X = 1 + 128 * j + 0 + k ∧ i = .int .i64 (k : Int) ∧ k ≤ 64 ∧ MkE wr2 base (.slice (some ⟨g, 0, none⟩) n cap) n (128 * j + 0 + k) ∧ w.grownBy wr2 (some g)) (fun _ i _ => 64 - (intOf i).toNat)
    case atStart => exact ⟨0, X, rfl, by have := HX.out; omega, rfl, by omega, hM.same _ (by omega), hG⟩
    case round =>
     clear hM hG HX
     obtain ⟨k, X, rfl, hX, rfl, hk, hM, hG⟩ := hrel
     have hX2 : X ≤ 500000 := by omega
     have HX := Lib.hid hX
     clear hX
     have HQ := Lib.hid (show j * 128 + k = 128 * j + 0 + k by omega)
     by_cases hlt : k < 64
     · have hki : (k : Int) < 64 := by omega
       obtain ⟨⟨u, hc⟩, hz, hM2, hG2⟩ := hM.step (by omega)
       have e1 : mkE (128 * j + 0 + k) = .int .u8 ((X : Int) % 256) := by
        rw [mkE_u, show (1 + ((128 * j + 0 + k : Nat) : Int)) = (X : Int) by have := HX.out; omega]
       rw [e1, ← HQ.out] at hM2 hG2
       rw [← HQ.out] at hc hz
       have HM2 := Lib.hid hM2
       have HG2 := Lib.hid (grown_trans hG hG2)
       clear hM2 hG2 hM hG e1
       go_wp2_with fail
       go_roundw
       case rel => exact ⟨k + 1, X + 1, by go_num, by have := HX.out; omega, by go_num, by omega, HM2.out.same _ (by omega), HG2.out⟩
       case measure => simp [intOf] <;> omega
     · have hki : ¬ (k : Int) < 64 := by omega
       obtain rfl : k = 64 := by omega
       go_wp2_with fail
       go_loopw [1, 7] (fun x i wr2 => ∃ k X : Nat, x = .int .i64 (X : Int) ∧ X = 1 + 128 * j + 64 + k ∧ i = .int .i64 (k : Int) ∧ k ≤ 64 ∧ MkE wr2 base (.slice (some ⟨g, 0, none⟩) n cap) n (128 * j + 64 + k) ∧ w.grownBy wr2 (some g)) (fun _ i _ => 64 - (intOf i).toNat)
       case atStart => exact ⟨0, X, rfl, by have := HX.out; omega, rfl, by omega, hM.same _ (by omega), hG⟩
       case round =>
        clear hM hG HX
        obtain ⟨k, X, rfl, hX, rfl, hk, hM, hG⟩ := hrel
        have hX2 : X ≤ 500000 := by omega
        have HX := Lib.hid hX
        clear hX
        have HQ := Lib.hid (show j * 128 + 64 + k = 128 * j + 64 + k by omega)
        by_cases hlt : k < 64
        · have hki : (k : Int) < 64 := by omega
          obtain ⟨⟨u, hc⟩, hz, hM2, hG2⟩ := hM.step (by omega)
          have e1 : mkE (128 * j + 64 + k) = .int .u8 ((X : Int) % 256) := by
           rw [mkE_u, show (1 + ((128 * j + 64 + k : Nat) : Int)) = (X : Int) by have := HX.out; omega]
          rw [e1, ← HQ.out] at hM2 hG2
          rw [← HQ.out] at hc hz
          have HM2 := Lib.hid hM2
          have HG2 := Lib.hid (grown_trans hG hG2)
          clear hM2 hG2 hM hG e1
          go_wp2_with fail
          go_roundw
          case rel => exact ⟨k + 1, X + 1, by go_num, by have := HX.out; omega, by go_num, by omega, HM2.out.same _ (by omega), HG2.out⟩
          case measure => simp [intOf] <;> omega
        · have hki : ¬ (k : Int) < 64 := by omega
          obtain rfl : k = 64 := by omega
          go_wp2_with fail
          go_roundw
          case rel => exact ⟨j + 1, X, rfl, by have := HX.out; omega, by go_num, by omega, hM.same _ (by omega), hG⟩
          case measure => simp [intOf] <;> omega
  · have hjl : ¬ (j : Int) < (n : Int) := by omega
    have e : j = n := by omega
    subst e
    go_wp2_with fail
    go_ret
    exact ⟨ret_int (by push_cast; rfl), hM, hG⟩
set_option maxRecDepth 100000 in
set_option maxHeartbeats 3200000 in
theorem heldFormS_any (n : Nat) (a0 : Option Addr) (cap base : Nat) (w : World) (h : MkE w base (.slice a0 n cap) n (128 * n)) (hn : n ≤ 3000) :
 Calls Try.prog 69 #[.slice a0 n cap, .int .i64 1] w fun e w' => e = .returned (.int .i64 ((1 + 128 * n : Nat) : Int)) ∧ w = w' := by
 go_enter Try.func69, Try.ntmps69
 go_wp2_with fail
 go_loopw [1, 5] (fun x i wr => ∃ j X : Nat, x = .int .i64 (X : Int) ∧ X = 1 + 128 * j ∧ i = .int .i64 (j : Int) ∧ j ≤ n ∧ wr = w) (fun _ i _ => n - (intOf i).toNat)
 case atStart => exact ⟨0, 1, rfl, rfl, rfl, Nat.zero_le _, rfl⟩
 case round =>
  obtain ⟨j, X, rfl, hX, rfl, hjn, rfl⟩ := hrel
  by_cases hj : j < n
  · have hjl : (j : Int) < (n : Int) := by omega
    obtain ⟨g, rfl⟩ := mkE_some h (by omega)
    have hX2 : X ≤ 400000 := by omega
    have HX := Lib.hid hX
    clear hX
    go_wp2_with fail
    go_loopw [1, 6] (fun x i wr2 => ∃ k X : Nat, x = .int .i64 (X : Int) ∧ X = 1 + 128 * j + 0 + k ∧ i = .int .i64 (k : Int) ∧ k ≤ 64 ∧ wr2 = wr) (fun _ i _ => 64 - (intOf i).toNat)
    case atStart => exact ⟨0, X, rfl, by have := HX.out; omega, rfl, by omega, rfl⟩
    case round =>
     clear HX
     obtain ⟨k, X, rfl, hX, rfl, hk, rfl⟩ := hrel
     have hX2 : X ≤ 500000 := by omega
     have HX := Lib.hid hX
     clear hX
     have HQ := Lib.hid (show j * 128 + k = 128 * j + 0 + k by omega)
     by_cases hlt : k < 64
     · have hki : (k : Int) < 64 := by omega
       have e1 : mkE (128 * j + 0 + k) = .int .u8 ((X : Int) % 256) := by
        rw [mkE_u, show (1 + ((128 * j + 0 + k : Nat) : Int)) = (X : Int) by have := HX.out; omega]
       have hc := MkE.cell h (k := 128 * j + 0 + k) (by omega) (by omega)
       rw [e1, ← HQ.out] at hc
       have hne : (((X : Int) % 256) != ((X : Int) % 256)) = false := by simp
       clear e1
       go_wp2_with fail
       go_roundw
       case rel => exact ⟨k + 1, X + 1, by go_num, by have := HX.out; omega, by go_num, by omega, trivial⟩
       case measure => simp [intOf] <;> omega
     · have hki : ¬ (k : Int) < 64 := by omega
       obtain rfl : k = 64 := by omega
       go_wp2_with fail
       go_loopw [1, 7] (fun x i wr2 => ∃ k X : Nat, x = .int .i64 (X : Int) ∧ X = 1 + 128 * j + 64 + k ∧ i = .int .i64 (k : Int) ∧ k ≤ 64 ∧ wr2 = wr) (fun _ i _ => 64 - (intOf i).toNat)
       case atStart => exact ⟨0, X, rfl, by have := HX.out; omega, rfl, by omega, rfl⟩
       case round =>
        clear HX
        obtain ⟨k, X, rfl, hX, rfl, hk, rfl⟩ := hrel
        have hX2 : X ≤ 500000 := by omega
        have HX := Lib.hid hX
        clear hX
        have HQ := Lib.hid (show j * 128 + 64 + k = 128 * j + 64 + k by omega)
        by_cases hlt : k < 64
        · have hki : (k : Int) < 64 := by omega
          have e1 : mkE (128 * j + 64 + k) = .int .u8 ((X : Int) % 256) := by
           rw [mkE_u, show (1 + ((128 * j + 64 + k : Nat) : Int)) = (X : Int) by have := HX.out; omega]
          have hc := MkE.cell h (k := 128 * j + 64 + k) (by omega) (by omega)
          rw [e1, ← HQ.out] at hc
          have hne : (((X : Int) % 256) != ((X : Int) % 256)) = false := by simp
          clear e1
          go_wp2_with fail
          go_roundw
          case rel => exact ⟨k + 1, X + 1, by go_num, by have := HX.out; omega, by go_num, by omega, trivial⟩
          case measure => simp [intOf] <;> omega
        · have hki : ¬ (k : Int) < 64 := by omega
          obtain rfl : k = 64 := by omega
          go_wp2_with fail
          go_roundw
          case rel => exact ⟨j + 1, X, rfl, by have := HX.out; omega, by go_num, by omega, trivial⟩
          case measure => simp [intOf] <;> omega
  · have hjl : ¬ (j : Int) < (n : Int) := by omega
    have e : j = n := by omega
    subst e
    go_wp2_with fail
    go_ret
    exact ⟨ret_int (by push_cast; rfl), rfl⟩
end Go.Proofs.Ytoncepgcfifgbaa
end
section
namespace Go.Proofs.Ytoncepgcfifgbaa
open Go Go.RowKit
set_option linter.unusedVariables false
set_option linter.unusedSimpArgs false
attribute [local irreducible] deg invN quoP resP prd bzD bzU bzW sqP ofN rowF degF allF frC
set_option maxRecDepth 100000 in
set_option maxHeartbeats 3200000 in
theorem spec_ReducedForms_any (p : Int) (D : Nat → Nat) (hD : byte D) (w : World)  :
 Calls Try.prog 65 #[.int .i64 p, .agg (zb 64 D)] w (RfF p D w) := by
 have HDC := Lib.hid (fun W => l07Is_any p D hD W)
 go_enter Try.func65, Try.ntmps65
 go_upto_region 1 with (fail)
 obtain ⟨W1, hwo⟩ : ∃ v : World, v = (w.alloc (.cells (zb 64 (D)) 23)) := ⟨_, rfl⟩
 have B0 : Blk W1 (w.heap.size) 64 23 (D) := by subst hwo; have := (Blk.new w 64 23 (D)); simpa using this
 have hb : Below w.heap.size w W1 := by subst hwo; exact ((Below.refl _ _).alloc (Nat.le_refl _) _)
 rw [← hwo]
 clear hwo
 cases hf : dcB p D with
 | false =>
  have HV := Lib.hid (rfV_1 hf)
  go_wp2_with (first | (refine zla (.tmp 3) B0 Try.underlying23 Try.size23 ?_) | (go_at_call 124; refine (HDC.out _).mono ?_; rintro e W2 ⟨rfl, hW2⟩; replace B0 := B0.zw hW2; replace hb := (hb).trans (hW2.mono (hb).size); rw [hf]))
  go_ret2
  exact ⟨_, by rw [HV.out]; rfl, by rw [HV.out]; exact SlL.nil _ _ hb.size, hb⟩
 | true =>
  obtain ⟨n, g, rfl, hpr, lD, hg2, hdg⟩ := dcB_out hf
  have HV := Lib.hid (rfV_0 hf hdg)
  have HRF := Lib.hid (fun W => l07All_any n g D W hpr lD hdg hg2)
  go_upto_region 3 with (first | (refine zla (.tmp 3) B0 Try.underlying23 Try.size23 ?_) | (go_at_call 124; refine (HDC.out _).mono ?_; rintro e W2 ⟨rfl, hW2⟩; replace B0 := B0.zw hW2; replace hb := (hb).trans (hW2.mono (hb).size); rw [hf]))
  have hbs := hb.size
  go_wp2_with (first | (refine zla (.tmp 3) B0 Try.underlying23 Try.size23 ?_) | (go_at_call 131; refine (HRF.out _).mono ?_; rintro e W9 ⟨v2, rfl, S2, h2⟩; have ehb := hb.trans (h2.mono hb.size)))
  go_ret2
  exact ⟨_, by rw [HV.out]; rfl, by rw [HV.out]; exact S2.base hbs, ehb⟩
end Go.Proofs.Ytoncepgcfifgbaa
end
section
namespace Go.Proofs.Ytoncepgcfifgbaa
open Go Go.RowKit
set_option linter.unusedVariables false
set_option linter.unusedSimpArgs false
set_option maxRecDepth 100000 in
set_option maxHeartbeats 3200000 in
theorem FnExactReducedForms_walkH (p : Int) (f : Nat → Nat) (hf : byte f) (w : World) (HFD : ∀ (n g m : Nat) (W : World), dcB (n : Int) f = true → deg f = ((2 * g + 1 : Nat) : Int) → m ≤ g → Calls Try.prog 170 #[.agg (fdC (n : Int) f).toArray, .int .i64 (m : Int)] W (FoD n f m W)) :
 Calls Try.prog 18 #[.int .i64 p, .agg (zb 64 f)] w fun e w' => e = .returned (.bool true) ∧ Below w.heap.size w w' := by
 have hR := (rfV_len p f)
 obtain ⟨K, hK⟩ : ∃ K, K = 1 + 128 * ((rfV p f).1).length := ⟨_, rfl⟩
 have hK1 : (K : Int) ≤ 1000000 := by omega
 have hK2 : ((K : Int) != (K : Int)) = false := by simp
 have hK3 : ¬ (K : Int) < 0 := by omega
 have hne : (((rfV p f).2) != ((rfV p f).2)) = false := by simp
 have HK := Lib.hid hK
 clear hK
 go_enter Try.func18, Try.ntmps18
 go_upto_region 1 with (fail)
 obtain ⟨wo, hwo⟩ : ∃ wo : World, wo = (w.alloc (.cells (zb 64 f) 22)) := ⟨_, rfl⟩
 have B0 : Blk wo w.heap.size 64 22 f := by subst hwo; have := Blk.new w 64 22 f; simpa using this
 have hb : Below w.heap.size w wo := by subst hwo; exact ((Below.refl _ _).alloc (Nat.le_refl _) _)
 rw [← hwo]
 clear hwo
 go_upto_region 2 with (first | refine zlb rfl 22 _ rfl _ rfl 64 22 _ (B0) 5 Try.underlying22 Try.size22 ?_ | (go_at_call 26; refine (toPoly_any _ hf _).mono ?_; rintro e W1 ⟨rfl, h1⟩; replace B0 := B0.zw h1; replace hb := hb.trans (h1.mono hb.size)) | (go_at_call 65; refine (spec_ReducedForms_any p f hf _).mono ?_; rintro e W2 ⟨v1, rfl, S1, h2⟩; have hzS1 := hb.size; have hltS1 := B0.lt; replace B0 := B0.zw h2; replace hb := hb.trans (h2.mono hb.size)))
 obtain ⟨a1, cap1, rfl⟩ : ∃ a cap, v1 = .slice a ((rfV p f).1).length cap := by
  rcases S1.shape with ⟨h1, h2⟩ | ⟨g, cap, h1⟩
  · have h3 := congrArg List.length h2
    rw [frRows_len] at h3
    exact ⟨_, _, by rw [h1, show ((rfV p f).1).length = 0 from h3]⟩
  · exact ⟨_, _, by rw [h1, frRows_len]⟩
 obtain ⟨base1, hb1⟩ : ∃ b, b = W1.heap.size := ⟨_, rfl⟩
 rw [← hb1] at S1
 have T1 := S1.top
 obtain ⟨top1, ht1⟩ : ∃ b, b = W2.heap.size := ⟨_, rfl⟩
 rw [← ht1] at T1
 have hsz := Nat.le_of_eq ht1
 clear hb1 ht1 S1
 have Z1 : SzG top1 W2 := hsz
 go_upto_region 3 with (first | refine zlb rfl 22 _ rfl _ rfl 64 22 _ (B0) 5 Try.underlying22 Try.size22 ?_ | (go_at_call 26; refine (toPoly_any _ hf _).mono ?_; rintro e W1 ⟨rfl, h1⟩; replace B0 := B0.zw h1; replace T1 := T1.zw h1; replace Z1 := Z1.zw h1; replace hb := hb.trans (h1.mono hb.size)) | (go_at_call 66; refine (impl_ReducedForms_any p f hf _ HFD).mono ?_; rintro e W4 ⟨v2, rfl, S2, h2⟩; have hzS2 := hb.size; have hltS2 := B0.lt; replace B0 := B0.zw h2; replace T1 := T1.zw h2; replace hb := hb.trans (h2.mono hb.size)))
 obtain ⟨a2, cap2, rfl⟩ : ∃ a cap, v2 = .slice a ((rfV p f).1).length cap := by
  rcases S2.shape with ⟨h1, h2⟩ | ⟨g, cap, h1⟩
  · have h3 := congrArg List.length h2
    rw [frRows_len] at h3
    exact ⟨_, _, by rw [h1, show ((rfV p f).1).length = 0 from h3]⟩
  · exact ⟨_, _, by rw [h1, frRows_len]⟩
 have hap : ∀ r, (Value.slice a1 ((rfV p f).1).length cap1).ownBlock = some r → ∀ r2, (Value.slice a2 ((rfV p f).1).length cap2).ownBlock = some r2 → r ≠ r2 := fun r hr r2 hr2 => by
  have e1 := T1.2 r hr
  have e2 := S2.own r2 hr2
  have e3 := Z1.lt
  omega
 obtain ⟨base2, hb2⟩ : ∃ b, b = W1.heap.size := ⟨_, rfl⟩
 rw [← hb2] at S2 hzS2
 have S1 := T1.1
 have HAP := Lib.hid hap
 have hwb : w.heap.size < base2 := by rw [hb2]; exact hltS2
 clear hb2 T1 Z1 hap hsz
 go_upto_region 6 with (first | (go_at_call 67; refine (eqFormS_same 0 ((rfV p f).1) a2 a1 cap2 cap1 base2 base1 _ S2 S1 hR).mono ?_; rintro e W5 ⟨rfl, h2⟩; replace B0 := B0.zw h2; replace S1 := S1.zw h2; replace S2 := S2.zw h2; replace hb := hb.trans (h2.mono hb.size)))
 go_upto_region 8 with (first | (go_at_call 68; refine (markFormS_any ((rfV p f).1).length a2 cap2 base2 _ (S2.marksE (frRows_len ..)) hR).mono ?_; rintro e W6 ⟨rfl, M2, hG⟩; rw [← HK.out]))
 have hown := S2.own
 replace B0 := B0.grownO hG hown (base := base2) hwb
 replace hb := hb.grown hG hb.size (fun k e => Nat.le_trans (Nat.le_of_lt hwb) (hown k e))
 replace S1 := slL_apart S1 hG (by
  cases hv : (Value.slice a1 ((rfV p f).1).length cap1).ownBlock with
  | none => exact .inl rfl
  | some r =>
   refine .inr fun h => ?_
   exact HAP.out r hv r h.symm rfl)
 clear S2 hG hown
 go_upto_region 13 with (first | (go_at_call 69; refine (heldFormS_any ((rfV p f).1).length a2 cap2 base2 _ M2 hR).mono ?_; rintro e wS ⟨rfl, rfl⟩; rw [← HK.out]))
 go_upto_region 14 with (first | refine zlb rfl 22 _ rfl _ rfl 64 22 _ (B0) 5 Try.underlying22 Try.size22 ?_ | (go_at_call 26; refine (toPoly_any _ hf _).mono ?_; rintro e W1 ⟨rfl, h1⟩; replace B0 := B0.zw h1; replace S1 := S1.zw h1; replace M2 := M2.below h1; replace hb := hb.trans (h1.mono hb.size)) | (go_at_call 66; refine (impl_ReducedForms_any p f hf _ HFD).mono ?_; rintro e W8 ⟨v3, rfl, S3, h2⟩; have hzS3 := hb.size; have hltS3 := B0.lt; replace B0 := B0.zw h2; replace S1 := S1.zw h2; replace M2 := M2.below h2; replace hb := hb.trans (h2.mono hb.size)))
 obtain ⟨a3, cap3, rfl⟩ : ∃ a cap, v3 = .slice a ((rfV p f).1).length cap := by
  rcases S3.shape with ⟨h1, h2⟩ | ⟨g, cap, h1⟩
  · have h3 := congrArg List.length h2
    rw [frRows_len] at h3
    exact ⟨_, _, by rw [h1, show ((rfV p f).1).length = 0 from h3]⟩
  · exact ⟨_, _, by rw [h1, frRows_len]⟩
 go_upto_region 17 with (first | (go_at_call 67; refine (eqFormS_same 0 ((rfV p f).1) a3 a1 cap3 cap1 _ base1 _ S3 S1 hR).mono ?_; rintro e W9 ⟨rfl, h2⟩; replace B0 := B0.zw h2; replace M2 := M2.below h2; replace hb := hb.trans (h2.mono hb.size)))
 clear S3 S1
 go_wp2_with (first | (go_at_call 69; refine (heldFormS_any ((rfV p f).1).length a2 cap2 base2 _ M2 hR).mono ?_; rintro e wS ⟨rfl, rfl⟩; rw [← HK.out]))
 go_ret
 exact ⟨rfl, hb⟩
theorem FnExactReducedForms_walk (p : Int) (f : Nat → Nat) (hf : byte f) (w : World) :
 Calls Try.prog 18 #[.int .i64 p, .agg (zb 64 f)] w fun e w' => e = .returned (.bool true) ∧ Below w.heap.size w w' := FnExactReducedForms_walkH p f hf w (forms_given f)
end Go.Proofs.Ytoncepgcfifgbaa
end
