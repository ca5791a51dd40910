/-
  What the rows of this claim rest on: arrays of bytes, walks of the functions, plain mathematics.
-/
import Derived.Test.YtelgefgphhebnaaZr7
import Derived.WalkKit
import Derived.WalkSpells
import Derived.WalkLawsBesides
import Derived.Lib.Hide
import Derived.Laws.Rows
import Derived.Laws.CopyOwn
import Derived.Deep.QuietTactic
import Derived.Deep.WholeRow
import Derived.Deep.Draws
import Derived.Deep.MidRow
import Derived.Deep.CutRange
import Derived.Deep.DeepCutAuto
import Derived.Deep.RegionHeld3
import Derived.BigQuiet
import Derived.BigRegion
import Derived.Test.YtelgefgphhebnaaRows
import Derived.Great.BuildSlice
import Derived.Laws.Tables
import Derived.Laws.StructEq
import Derived.ScopeJumps
import Derived.Deep.CutBlock
import Derived.OwnWalk
import Derived.RangeFuncNested
import Derived.RangeFuncBound
import Derived.RangeFuncCalls
import Derived.RangeFuncLeaves
import Derived.Shelf.Abstract
import Derived.Shelf.RegionOpen
import Derived.OwnWalkIn
import Derived.TacticsInMore
import Derived.LoopNIn
import Derived.LoopIn
import Derived.Maps.OwnOps
import Derived.DeepKeys4
import Derived.Carry
import Derived.Test.YtelgefgphhebnaaProg
import Derived.Deep.Slices
import Derived.OpenShut
import Derived.ProofKit
import Derived.Handy
import Derived.Laws.MakeOwn
section
namespace Go.Proofs.Ytelgefgphhebnaa
open Go Go.RowKit
set_option linter.unusedVariables false
set_option linter.unusedSimpArgs false
theorem slL_apart {w w' : World} {base size : Nat} {e : TypeId} {v : Value} {cs : List (List Value)} {row : Option Nat} (h : SlL w base e size v cs) (hg : w.grownBy w' row) (hr : v.ownBlock = none ∨ v.ownBlock ≠ row) : SlL w' base e size v cs := by
 delta SlL at *
 exact ⟨Nat.le_trans h.1 hg.size, h.2.1, h.2.2.kept hg hr⟩
attribute [local irreducible] mkF MkF
end Go.Proofs.Ytelgefgphhebnaa
namespace Go.Proofs.Ytelgefgphhebnaa
open Go Go.RowKit
set_option linter.unusedVariables false
set_option linter.unusedSimpArgs false
theorem mkW_some {w : World} {base n q cap : Nat} {a : Option Addr} (h : MkP w base (.slice a n cap) n q) (hn : 0 < n) : ∃ g, a = some ⟨g, 0, none⟩ := by
 obtain ⟨ys, h1, _⟩ := h
 rcases h1.2 with ⟨h2, h3⟩ | ⟨g, c, cur, h2, _⟩
 · omega
 · injection h2 with h2; exact ⟨g, h2⟩
theorem SlL.marksP {w : World} {base n : Nat} {v : Value} {cs : List (List Value)} (h : SlL w base 28 64 v cs) (hn : cs.length = n) : MkP w base v n 0 := by
 delta SlL at h
 exact ⟨cs.flatten, hn ▸ h.2.2, fun k hk => absurd hk (by omega)⟩
attribute [local irreducible] mkW MkP
end Go.Proofs.Ytelgefgphhebnaa
end
section
namespace Go.Proofs.Ytelgefgphhebnaa
open Go Go.RowKit
set_option linter.unusedVariables false
set_option linter.unusedSimpArgs false
section
attribute [local irreducible] mkW MkP
set_option maxRecDepth 100000 in
set_option maxHeartbeats 3200000 in
theorem markPolyS_big (n : Nat) (a0 : Option Addr) (cap base : Nat) (w : World) (h : MkP w base (.slice a0 n cap) n 0) (hn : n ≤ 1048576) :
 Calls Try.prog 21 #[.slice a0 n cap, .int .i64 1] w fun e w' => e = .returned (.int .i64 ((1 + 64 * n : Nat) : Int)) ∧ MkP w' base (.slice a0 n cap) n (64 * n) ∧ w.grownBy w' (Value.slice a0 n cap).ownBlock := by
 go_enter Try.func21, Try.ntmps21
 go_wp2_with fail
 go_loopw [1, 5] (fun x i wr => ∃ j X : Nat, x = .int .i64 (X : Int) ∧ X = 1 + 64 * j ∧ i = .int .i64 (j : Int) ∧ j ≤ n ∧ MkP wr base (.slice a0 n cap) n (64 * j) ∧ w.grownBy wr (Value.slice a0 n cap).ownBlock) (fun _ i _ => n - (intOf i).toNat)
 case atStart => exact ⟨0, 1, rfl, rfl, rfl, Nat.zero_le _, h, grown_refl _ _⟩
 case round =>
  clear h; obtain ⟨j, X, rfl, hX, rfl, hjn, hM, hG⟩ := hrel
  by_cases hj : j < n
  · have hjl : (j : Int) < (n : Int) := by omega
    obtain ⟨g, rfl⟩ := mkW_some hM (by omega)
    have hX2 : X ≤ 67108865 := by omega
    have HX := Lib.hid hX
    clear hX
    go_wp2_with fail
    go_loopw [1, 6] (fun x i wr2 => ∃ k X : Nat, x = .int .i64 (X : Int) ∧ X = 1 + 64 * j + k ∧ i = .int .i64 (k : Int) ∧ k ≤ 64 ∧ MkP wr2 base (.slice (some ⟨g, 0, none⟩) n cap) n (64 * j + k) ∧ w.grownBy wr2 (some g)) (fun _ i _ => 64 - (intOf i).toNat)
    case atStart => exact ⟨0, X, rfl, by have := HX.out; omega, rfl, by omega, hM, hG⟩
    case round =>
     clear hM hG HX; obtain ⟨k, X, rfl, hX, rfl, hk, hM, hG⟩ := hrel
     have hX2 : X ≤ 67108929 := by omega
     have HX := Lib.hid hX
     clear hX
     have HQ := Lib.hid (show j * 64 + k = 64 * j + k by omega)
     by_cases hlt : k < 64
     · have e1 : mkW (64 * j + k) = .int .u8 ((X : Int) % 256) := by
        unfold mkW; rw [show (1 + ((64 * j + k : Nat) : Int)) = (X : Int) by have := HX.out; omega]
       obtain ⟨⟨u, hc⟩, hz, hM2, hG2⟩ := hM.step (by omega)
       rw [e1, ← HQ.out] at hM2 hG2
       rw [← HQ.out] at hc hz
       have HM2 := Lib.hid hM2
       have HG2 := Lib.hid (grown_trans hG hG2)
       clear hM2 hG2 hM hG e1
       go_wp2_with fail
       go_roundw
       case rel => exact ⟨k + 1, X + 1, by go_num, by have := HX.out; omega, by go_num, by omega, HM2.out.same _ (by omega), HG2.out⟩
       case measure => simp [intOf] <;> omega
     · have e : k = 64 := by omega
       subst e
       have HM2 := Lib.hid (hM.same (64 * (j + 1)) (by omega))
       have HG2 := Lib.hid hG
       clear hM hG
       go_wp2_with fail
       go_roundw
       case rel => exact ⟨j + 1, X, rfl, by have := HX.out; omega, by go_num, by omega, HM2.out, HG2.out⟩
       case measure => simp [intOf] <;> omega
  · have hjl : ¬ (j : Int) < (n : Int) := by omega
    have e : j = n := by omega
    subst e
    go_wp2_with fail
    go_ret
    exact ⟨ret_int (by push_cast; rfl), hM, hG⟩
set_option maxRecDepth 100000 in
set_option maxHeartbeats 3200000 in
theorem heldPolyS_big (n : Nat) (a0 : Option Addr) (cap base : Nat) (w : World) (h : MkP w base (.slice a0 n cap) n (64 * n)) (hn : n ≤ 1048576) :
 Calls Try.prog 26 #[.slice a0 n cap, .int .i64 1] w fun e w' => e = .returned (.int .i64 ((1 + 64 * n : Nat) : Int)) ∧ w = w' := by
 go_enter Try.func26, Try.ntmps26
 go_wp2_with fail
 go_loopw [1, 5] (fun x i wr => ∃ j X : Nat, x = .int .i64 (X : Int) ∧ X = 1 + 64 * j ∧ i = .int .i64 (j : Int) ∧ j ≤ n ∧ wr = w) (fun _ i _ => n - (intOf i).toNat)
 case atStart => exact ⟨0, 1, rfl, rfl, rfl, Nat.zero_le _, rfl⟩
 case round =>
  obtain ⟨j, X, rfl, hX, rfl, hjn, rfl⟩ := hrel
  by_cases hj : j < n
  · have hjl : (j : Int) < (n : Int) := by omega
    obtain ⟨g, rfl⟩ := mkW_some h (by omega)
    have hX2 : X ≤ 67108865 := by omega
    have HX := Lib.hid hX
    clear hX
    go_wp2_with fail
    go_loopw [1, 6] (fun x i wr2 => ∃ k X : Nat, x = .int .i64 (X : Int) ∧ X = 1 + 64 * j + k ∧ i = .int .i64 (k : Int) ∧ k ≤ 64 ∧ wr2 = wr) (fun _ i _ => 64 - (intOf i).toNat)
    case atStart => exact ⟨0, X, rfl, by have := HX.out; omega, rfl, by omega, rfl⟩
    case round =>
     clear HX; obtain ⟨k, X, rfl, hX, rfl, hk, rfl⟩ := hrel
     have hX2 : X ≤ 67108929 := by omega
     have HX := Lib.hid hX
     clear hX
     have HQ := Lib.hid (show j * 64 + k = 64 * j + k by omega)
     by_cases hlt : k < 64
     · have e1 : mkW (64 * j + k) = .int .u8 ((X : Int) % 256) := by
        unfold mkW; rw [show (1 + ((64 * j + k : Nat) : Int)) = (X : Int) by have := HX.out; omega]
       have hc := MkP.cell h (k := 64 * j + k) (by omega) (by omega)
       rw [e1, ← HQ.out] at hc
       have hne : (((X : Int) % 256) != ((X : Int) % 256)) = false := by simp
       clear e1
       go_wp2_with fail
       go_roundw
       case rel => exact ⟨k + 1, X + 1, by go_num, by have := HX.out; omega, by go_num, by omega, trivial⟩
       case measure => simp [intOf] <;> omega
     · have e : k = 64 := by omega
       subst e
       go_wp2_with fail
       go_roundw
       case rel => exact ⟨j + 1, X, rfl, by have := HX.out; omega, by go_num, by omega, trivial⟩
       case measure => simp [intOf] <;> omega
  · have hjl : ¬ (j : Int) < (n : Int) := by omega
    have e : j = n := by omega
    subst e
    go_wp2_with fail
    go_ret
    exact ⟨ret_int (by push_cast; rfl), rfl⟩
end
attribute [local irreducible] upX
end Go.Proofs.Ytelgefgphhebnaa
end
section
namespace Go.Proofs.Ytelgefgphhebnaa
open Go Go.RowKit
set_option linter.unusedVariables false
set_option linter.unusedSimpArgs false
/-- a span with its code -/
noncomputable def snV (p : Int) (m : Nat → Nat) (L : List (Nat → Nat)) : List (Nat → Nat) × Int := if ckR p m [L] = 0 then (spnV p.toNat L, 0) else ([], ckR p m [L])
theorem snV_0 {n : Nat} {m : Nat → Nat} {L : List (Nat → Nat)} (h : ckR (n : Int) m [L] = 0) : snV (n : Int) m L = (spnV n L, 0) := by unfold snV; rw [if_pos h]; rfl
theorem snV_n {p : Int} {m : Nat → Nat} {L : List (Nat → Nat)} (h : ckR p m [L] ≠ 0) : snV p m L = ([], ckR p m [L]) := by unfold snV; rw [if_neg h]
theorem spn_len {p d : Nat} (hpr : p = 2 ∨ p = 3 ∨ p = 5 ∨ p = 7) (hd4 : d ≤ 4) {L : List (Nat → Nat)} (hL : ∀ v, v ∈ L → (∀ k, k < 64 → v k < p) ∧ deg v < (d : Int)) : (spnV p L).length ≤ 4 := by
 have := (ptR_ok hpr hd4 (spnV_ok hpr hd4 hL) (L.map cut).length).1
 rw [ptR_n] at this
 unfold spnV
 exact this
theorem snV_len (p : Int) (m : Nat → Nat) (L : List (Nat → Nat)) : (snV p m L).1.length ≤ 4 := by
 by_cases h : ckR p m [L] = 0
 · obtain ⟨n, d, rfl, hpr, _, _, _, d4, _, hg⟩ := ck_fld h
   rw [snV_0 h]
   exact spn_len hpr d4 (hg L (by simp))
 · rw [snV_n h]; exact Nat.zero_le _
attribute [irreducible] snV
attribute [local irreducible] deg flV
set_option maxRecDepth 100000 in
set_option maxHeartbeats 3200000 in
theorem impl_SpanOf_any (p : Int) (m : Nat → Nat) (Lr : List (Nat → Nat)) (a : Option Addr) (cap base : Nat) (w : World) (hm : byte m) (hLb : ∀ x, x ∈ Lr → byte x) (hlen : (Lr.length : Int) ≤ 1048576) (hL : SlL w base 28 64 (.slice a Lr.length cap) (plR Lr)) :
 Calls Try.prog 25 #[.int .i64 p, .agg (zb 64 m), .slice a Lr.length cap] w fun e w' => ∃ v, e = .returned (.tuple #[v, .int .i64 (snV p m Lr).2]) ∧ SlL w' w.heap.size 28 64 v (plR (snV p m Lr).1) ∧ Below w.heap.size w w' := by
 have HCK := Lib.hid (fun W W2 b (hW : Below w.heap.size w W) (hy : Below W.heap.size W W2) (hR : Row W2 b 30 [Value.slice a Lr.length cap].toArray) => checkResidues_any p m hm [Lr] [.slice a Lr.length cap] (.slice (some ⟨b, 0, none⟩) 1 1) W2 (fun L h => by rw [List.mem_singleton] at h; subst h; exact ⟨hLb, hlen⟩) (by simp) (LsV.one ((hL.zw hW).below hy (hL.zw hW).lt)) (LsS.row (vs := [Value.slice a Lr.length cap]) hR))
 go_enter Try.func25, Try.ntmps25
 go_upto_region 1 with (fail)
 obtain ⟨W1, hwo⟩ : ∃ v : World, v = (w.alloc (.cells (zb 64 (m)) 28)) := ⟨_, rfl⟩
 have B0 : Blk W1 (w.heap.size) 64 28 (m) := by subst hwo; have := (Blk.new w 64 28 (m)); simpa using this
 have hb : Below w.heap.size w W1 := by subst hwo; exact ((Below.refl _ _).alloc (Nat.le_refl _) _)
 rw [← hwo]
 clear hwo
 obtain ⟨C, hC⟩ : ∃ C, ckR p m [Lr] = C := ⟨_, rfl⟩
 go_upto_region 2 with (first | (refine zla (.tmp 4) B0 Try.underlying28 Try.size28 ?_) | (refine wpList_build_one rfl 25 _ (.slice a Lr.length cap) rfl rfl 30 Try.underlying25 Try.elemSl rfl ?_; intro wa hrw hba) | (go_at_call 55; refine (HCK.out _ _ _ hb hba hrw).mono ?_; rintro e W5 ⟨rfl, h5⟩; replace B0 := (B0.zw hba).below h5 (B0.zw hba).lt; replace hb := (hb.trans (hba.mono hb.size)).trans (h5.mono (hb.trans (hba.mono hb.size)).size); rw [hC]))
 by_cases h0 : C = 0
 · have hck := hC.trans h0
   subst h0
   have hck2 := hck
   obtain ⟨n, d, rfl, hpr, _, _, _, d4, _, hg⟩ := ck_fld hck2
   have hg1 := hg Lr (by simp)
   have HV := Lib.hid (snV_0 hck)
   have hLw := hL.zw hb
   clear hC hck hck2 hg HCK
   go_upto_region 4 with (fail)
   go_wp2_with (first | (refine zla (.tmp 4) B0 Try.underlying28 Try.size28 ?_) | (refine zbo rfl 70 _ rfl (fdC (n : Int) m).toArray (by rw [Array.toList_map]; exact built_fd (n : Int) m) ?_) | (go_at_call 56; refine (span_any n d m Lr a cap base _ hpr d4 hg1 hlen hLw).mono ?_; rintro e W6 ⟨a2, c2, rfl, hS6, h6⟩))
   go_ret2
   exact ⟨_, by rw [HV.out]; rfl, by rw [HV.out]; exact hS6.base hb.size, hb.trans (h6.mono hb.size)⟩
 · have HV := Lib.hid (snV_n (show ckR p m [Lr] ≠ 0 by rw [hC]; exact h0))
   rw [hC] at HV
   have hC1 : (C != 0) = true := by simp [h0]
   clear hC HCK
   go_wp2_with fail
   go_ret2
   exact ⟨_, by rw [HV.out]; rfl, by rw [HV.out, plR_nil]; exact SlL.nil _ _ hb.size, hb⟩
set_option maxRecDepth 100000 in
set_option maxHeartbeats 3200000 in
theorem spec_SpanOf_any (p : Int) (m : Nat → Nat) (Lr : List (Nat → Nat)) (a : Option Addr) (cap base : Nat) (w : World) (hm : byte m) (hLb : ∀ x, x ∈ Lr → byte x) (hlen : (Lr.length : Int) ≤ 1048576) (hL : SlL w base 28 64 (.slice a Lr.length cap) (plR Lr)) :
 Calls Try.prog 24 #[.int .i64 p, .agg (zb 64 m), .slice a Lr.length cap] w fun e w' => ∃ v, e = .returned (.tuple #[v, .int .i64 (snV p m Lr).2]) ∧ SlL w' w.heap.size 28 64 v (plR (snV p m Lr).1) ∧ Below w.heap.size w w' := by
 have HCK := Lib.hid (fun W (hW : Below w.heap.size w W) => l03Residues_any p m hm Lr a cap base W hLb hlen (hL.zw hW))
 go_enter Try.func24, Try.ntmps24
 go_upto_region 1 with (fail)
 obtain ⟨W1, hwo⟩ : ∃ v : World, v = (w.alloc (.cells (zb 64 (m)) 28)) := ⟨_, rfl⟩
 have B0 : Blk W1 (w.heap.size) 64 28 (m) := by subst hwo; have := (Blk.new w 64 28 (m)); simpa using this
 have hb : Below w.heap.size w W1 := by subst hwo; exact ((Below.refl _ _).alloc (Nat.le_refl _) _)
 rw [← hwo]
 clear hwo
 obtain ⟨C, hC⟩ : ∃ C, ckR p m [Lr] = C := ⟨_, rfl⟩
 go_upto_region 2 with (first | (refine zla (.tmp 4) B0 Try.underlying28 Try.size28 ?_) | (go_at_call 53; refine (HCK.out _ hb).mono ?_; rintro e W5 ⟨rfl, h5⟩; replace B0 := B0.zw h5; replace hb := hb.trans (h5.mono hb.size); rw [hC]))
 by_cases h0 : C = 0
 · have hck := hC.trans h0
   subst h0
   have hck2 := hck
   obtain ⟨n, d, rfl, hpr, _, _, _, d4, _, hg⟩ := ck_fld hck2
   have hg1 := hg Lr (by simp)
   have HV := Lib.hid (snV_0 hck)
   have hLw := hL.zw hb
   clear hC hck hck2 hg HCK
   go_upto_region 4 with (fail)
   go_wp2_with (first | (go_at_call 54; refine (l09Span_any n d Lr a cap base _ hpr d4 hg1 hlen hLw).mono ?_; rintro e W6 ⟨a2, c2, rfl, hS6, h6⟩))
   go_ret2
   exact ⟨_, by rw [HV.out]; rfl, by rw [HV.out]; exact hS6.base hb.size, hb.trans (h6.mono hb.size)⟩
 · have HV := Lib.hid (snV_n (show ckR p m [Lr] ≠ 0 by rw [hC]; exact h0))
   rw [hC] at HV
   have hC1 : (C != 0) = true := by simp [h0]
   clear hC HCK
   go_wp2_with fail
   go_ret2
   exact ⟨_, by rw [HV.out]; rfl, by rw [HV.out, plR_nil]; exact SlL.nil _ _ hb.size, hb⟩
end Go.Proofs.Ytelgefgphhebnaa
end
section
namespace Go.Proofs.Ytelgefgphhebnaa
open Go Go.RowKit
set_option linter.unusedVariables false
set_option linter.unusedSimpArgs false
set_option maxRecDepth 100000 in
set_option maxHeartbeats 3200000 in
theorem FnExactSpanOf_walkA (w : World) (p : Int) (m : Nat → Nat) (hm : byte m) (aList : Option Addr) (nList cList : Nat) (XList : Nat → Nat → Nat) (xList : ∀ i, byte (XList i)) (wList : nList ≤ maxLen) (lList : Lst w aList nList XList) :
 Calls Try.prog 4 #[.int .i64 p, .agg (zb 64 m), .slice aList nList cList] w fun e w' => e = .returned (.bool true) ∧ Below w.heap.size w w' := by
 go_enter Try.func4, Try.ntmps4
 go_upto_region 1 with (fail)
 obtain ⟨W1, hwo⟩ : ∃ v : World, v = (w.alloc (.cells (zb 64 (m)) 22)) := ⟨_, rfl⟩
 have B0 : Blk W1 (w.heap.size) 64 22 (m) := by subst hwo; have := (Blk.new w 64 22 (m)); simpa using this
 have hb : Below w.heap.size w W1 := by subst hwo; exact ((Below.refl _ _).alloc (Nat.le_refl _) _)
 rw [← hwo]
 clear hwo
 by_cases hs0 : (nList : Int) ≤ 1048576
 · have hneg0 : ¬ (1048576 - (nList : Int) < 0) := by omega
   go_upto_region 5 with (first | (go_at_call 14; refine (szPolyS_at aList nList cList (1048576) _ wList (by omega) (by omega)).mono ?_; rintro e wS ⟨rfl, rfl⟩; rw [if_pos hs0]))
   have hm0 : (nList : Int) ≤ 1048576 := by omega
   obtain ⟨LList, hLList⟩ : ∃ L : List (Nat → Nat), L = (List.range nList).map XList := ⟨_, rfl⟩
   have hlList : LList.length = nList := by rw [hLList]; simp
   have hbyList : ∀ z, z ∈ LList → byte z := fun z hz => by rw [hLList] at hz; obtain ⟨i, _, rfl⟩ := List.mem_map.1 hz; exact xList i
   have hlenList : (LList.length : Int) ≤ 1048576 := by omega
   have HTOList := Lib.hid (fun W (hW : Below w.heap.size w W) => hLList ▸ toPolyS_any aList nList cList XList xList W (lList.below hW) hm0)
   have HEQList := Lib.hid (fun b b2 q q2 W h1 h2 => show Calls Try.prog 20 #[.slice (some ⟨b, 0, none⟩) nList nList, .slice (some ⟨b2, 0, none⟩) nList nList] W _ from hlList ▸ eqPolyS_big LList (some ⟨b, 0, none⟩) (some ⟨b2, 0, none⟩) LList.length LList.length q q2 W (hlList ▸ h1) (hlList ▸ h2) (by omega))
   clear hLList
   have HSP := Lib.hid (fun (W : World) (bList : Nat) (qList : Nat) (sList : SlL W qList 28 64 (.slice (some ⟨bList, 0, none⟩) nList nList) (plR LList)) => show Calls Try.prog 24 #[.int .i64 p, .agg (zb 64 m), .slice (some ⟨bList, 0, none⟩) nList nList] W _ from by
    have := spec_SpanOf_any p m LList (some ⟨bList, 0, none⟩) LList.length qList W hm hbyList hlenList (hlList ▸ sList)
    rw [hlList] at this
    exact this)
   have HIM := Lib.hid (fun (W : World) (bList : Nat) (qList : Nat) (sList : SlL W qList 28 64 (.slice (some ⟨bList, 0, none⟩) nList nList) (plR LList)) => show Calls Try.prog 25 #[.int .i64 p, .agg (zb 64 m), .slice (some ⟨bList, 0, none⟩) nList nList] W _ from by
    have := impl_SpanOf_any p m LList (some ⟨bList, 0, none⟩) LList.length qList W hm hbyList hlenList (hlList ▸ sList)
    rw [hlList] at this
    exact this)
   clear hbyList
   have HRL := Lib.hid (show ((snV p m LList).1).length ≤ 1048576 from Nat.le_trans (snV_len p m LList) (by decide))
   have hRL4 := snV_len p m LList
   obtain ⟨K, hK⟩ : ∃ K, K = 1 + 64 * ((snV p m LList).1).length := ⟨_, rfl⟩
   have hK1 : (K : Int) ≤ 1000000 := by omega
   have hK2 : ((K : Int) != (K : Int)) = false := by simp
   have hK3 : ¬ (K : Int) < 0 := by omega
   have HK := Lib.hid hK
   clear hK hRL4
   have hne0 : (((snV p m LList).2) != ((snV p m LList).2)) = false := by simp
   go_upto_region 6 with (first | (refine zla (.tmp 4) B0 Try.underlying22 Try.size22 ?_) | (go_at_call 16; refine (toPoly_any m hm _).mono ?_; rintro e W1 ⟨rfl, h2⟩; replace B0 := B0.zw h2; replace hb := hb.trans (h2.mono hb.size)) | (go_at_call 17; with_reducible refine (HTOList.out _ hb).mono ?_; rintro e W2 ⟨bList, rfl, hsList, _, h2⟩; replace B0 := B0.zw h2; replace hb := hb.trans (h2.mono hb.size)) | (go_at_call 24; refine (HSP.out _ _ _ hsList).mono ?_; rintro e W3 ⟨v1, rfl, S1, h2⟩; replace B0 := B0.zw h2; replace hb := hb.trans (h2.mono hb.size)))
   clear hsList HSP
   obtain ⟨a1, cap1, rfl⟩ := S1.form
   rw [plR_len] at S1 ⊢
   have T1 := S1.top
   obtain ⟨top1, ht1⟩ : ∃ b, b = W3.heap.size := ⟨_, rfl⟩
   rw [← ht1] at T1
   have hz1 := Nat.le_of_eq ht1
   have hw1 := B0.lt
   rw [← ht1] at hw1
   clear ht1 S1
   go_upto_region 7 with (first | (go_at_call 17; with_reducible refine (HTOList.out _ hb).mono ?_; rintro e W2 ⟨bx, rfl, hsx, hbl, h2⟩; replace T1 := T1.zw h2; replace B0 := B0.zw h2; replace hb := hb.trans (h2.mono hb.size)))
   have hbx := hsx.len.2.1
   have hbt : top1 ≤ bx := Nat.le_trans hz1 hbx
   have hbw : w.heap.size < bx := Nat.lt_of_lt_of_le hw1 hbt
   obtain ⟨qx, hqx⟩ : ∃ q, q = W3.heap.size := ⟨_, rfl⟩
   rw [← hqx] at hsx
   clear hqx hbx
   go_upto_region 8 with (first | (refine zla (.tmp 4) B0 Try.underlying22 Try.size22 ?_) | (go_at_call 16; refine (toPoly_any m hm _).mono ?_; rintro e W1 ⟨rfl, h2⟩; replace T1 := T1.zw h2; replace hsx := hsx.zw h2; replace hbl := Nat.lt_of_lt_of_le hbl h2.size; replace B0 := B0.zw h2; replace hb := hb.trans (h2.mono hb.size)) | (go_at_call 25; refine (HIM.out _ _ _ hsx).mono ?_; rintro e W4 ⟨v2, rfl, S2, h2⟩; have hz2 := hbl; have hw2 := hb.size; have hB2 := B0.lt; replace T1 := T1.zw h2; replace hsx := hsx.zw h2; replace B0 := B0.zw h2; replace hb := hb.trans (h2.mono hb.size)))
   obtain ⟨a2, cap2, rfl⟩ := S2.form
   rw [plR_len] at S2 ⊢
   have hap : ∀ r, (Value.slice a1 ((snV p m LList).1).length cap1).ownBlock = some r → ∀ r2, (Value.slice a2 ((snV p m LList).1).length cap2).ownBlock = some r2 → r ≠ r2 := fun r hr r2 hr2 => by
    have e1 := T1.2 r hr
    have e2 := S2.own r2 hr2
    omega
   have hax : ∀ r, (Value.slice a1 ((snV p m LList).1).length cap1).ownBlock = some r → r ≠ bx := fun r hr => by
    have e1 := T1.2 r hr
    omega
   have hay : ∀ r, (Value.slice a2 ((snV p m LList).1).length cap2).ownBlock = some r → r ≠ bx := fun r hr => by
    have e1 := S2.own r hr
    omega
   have haw : ∀ r, (Value.slice a2 ((snV p m LList).1).length cap2).ownBlock = some r → w.heap.size ≤ r := fun r hr => Nat.le_trans hw2 (S2.own r hr)
   have haz : ∀ r, (Value.slice a2 ((snV p m LList).1).length cap2).ownBlock = some r → w.heap.size + 1 ≤ r := fun r hr => by
    have e1 := S2.own r hr
    omega
   have HAZ := Lib.hid haz
   have S1 := T1.1
   have HAP := Lib.hid hap
   have HAX := Lib.hid hax
   have HAY := Lib.hid hay
   have HAW := Lib.hid haw
   obtain ⟨base2, hb2⟩ : ∃ b, b = W1.heap.size := ⟨_, rfl⟩
   rw [← hb2] at S2
   clear hb2 T1 hap hax hay haw haz hz1 hz2 hw1 hw2 hB2 hbl hbt
   go_upto_region 10 with (first | (go_at_call 20; refine (eqPolyS_big ((snV p m LList).1) a2 a1 cap2 cap1 base2 _ _ S2 S1 HRL.out).mono ?_; rintro e W5 ⟨rfl, h2⟩; replace S1 := S1.zw h2; replace S2 := S2.zw h2; replace hsx := hsx.zw h2; replace B0 := B0.zw h2; replace hb := hb.trans (h2.mono hb.size)))
   go_upto_region 12 with (first | (go_at_call 17; with_reducible refine (HTOList.out _ hb).mono ?_; rintro e W2 ⟨yx, rfl, zx, _, h2⟩; replace S1 := S1.zw h2; replace S2 := S2.zw h2; replace hsx := hsx.zw h2; replace B0 := B0.zw h2; replace hb := hb.trans (h2.mono hb.size)) | (go_at_call 20; refine (HEQList.out _ _ _ _ _ hsx zx).mono ?_; rintro e W6 ⟨rfl, h2⟩; replace S1 := S1.zw h2; replace S2 := S2.zw h2; replace hsx := hsx.zw h2; replace B0 := B0.zw h2; replace hb := hb.trans (h2.mono hb.size)))
   have hMX := hsx.marksP (show (plR LList).length = nList by rw [plR_len]; exact hlList)
   obtain ⟨KX, hKX⟩ : ∃ K, K = 1 + 64 * nList := ⟨_, rfl⟩
   have hKX3 : ¬ (KX : Int) < 0 := by omega
   have HKX := Lib.hid hKX
   clear hsx hKX
   go_upto_region 14 with (first | (go_at_call 21; refine (markPolyS_big nList (some ⟨bx, 0, none⟩) nList qx _ hMX (by omega)).mono ?_; rintro e W7 ⟨rfl, hMX2, hG⟩; rw [← HKX.out]))
   replace hb := hb.grown hG hb.size (fun k e => by cases e; exact Nat.le_of_lt hbw)
   replace S1 := slL_apart S1 hG (by
    cases hv : (Value.slice a1 ((snV p m LList).1).length cap1).ownBlock with
    | none => exact .inl rfl
    | some r =>
     refine .inr fun h => ?_
     exact HAX.out r hv (by injection h))
   replace S2 := slL_apart S2 hG (by
    cases hv : (Value.slice a2 ((snV p m LList).1).length cap2).ownBlock with
    | none => exact .inl rfl
    | some r =>
     refine .inr fun h => ?_
     exact HAY.out r hv (by injection h))
   replace B0 := B0.grownO hG (base := bx) (fun r e => by cases e; exact Nat.le_refl _) (by omega)
   clear hMX hMX2 hG hbw
   go_upto_region 16 with (first | (go_at_call 20; refine (eqPolyS_big ((snV p m LList).1) a2 a1 cap2 cap1 base2 _ _ S2 S1 HRL.out).mono ?_; rintro e W5 ⟨rfl, h2⟩; replace S1 := S1.zw h2; replace S2 := S2.zw h2; replace B0 := B0.zw h2; replace hb := hb.trans (h2.mono hb.size)))
   go_upto_region 18 with (first | (go_at_call 21; refine (markPolyS_big ((snV p m LList).1).length a2 cap2 base2 _ (S2.marksP (plR_len _)) HRL.out).mono ?_; rintro e W6 ⟨rfl, M2, hG⟩; rw [← HK.out]))
   replace hb := hb.grown hG hb.size (fun k e => HAW.out k e)
   replace S1 := slL_apart S1 hG (by
    cases hv : (Value.slice a1 ((snV p m LList).1).length cap1).ownBlock with
    | none => exact .inl rfl
    | some r =>
     refine .inr fun h => ?_
     exact HAP.out r hv r h.symm rfl)
   replace B0 : Blk W6 (w.heap.size) 64 22 (m) := B0.grownO hG (base := w.heap.size + 1) (fun r e => HAZ.out r e) (by omega)
   clear S2 hG
   go_upto_region 24 with (first | (go_at_call 26; refine (heldPolyS_big ((snV p m LList).1).length a2 cap2 base2 _ M2 HRL.out).mono ?_; rintro e wS ⟨rfl, rfl⟩; rw [← HK.out]))
   go_upto_region 25 with (first | (refine zla (.tmp 4) B0 Try.underlying22 Try.size22 ?_) | (go_at_call 16; refine (toPoly_any m hm _).mono ?_; rintro e W1 ⟨rfl, h2⟩; replace S1 := S1.zw h2; replace M2 := M2.below h2; replace B0 := B0.zw h2; replace hb := hb.trans (h2.mono hb.size)) | (go_at_call 17; with_reducible refine (HTOList.out _ hb).mono ?_; rintro e W2 ⟨bz, rfl, hsz, _, h2⟩; replace S1 := S1.zw h2; replace M2 := M2.below h2; replace B0 := B0.zw h2; replace hb := hb.trans (h2.mono hb.size)) | (go_at_call 25; refine (HIM.out _ _ _ hsz).mono ?_; rintro e W4 ⟨v3, rfl, S3, h2⟩; replace S1 := S1.zw h2; replace M2 := M2.below h2; replace B0 := B0.zw h2; replace hb := hb.trans (h2.mono hb.size)))
   obtain ⟨a3, cap3, rfl⟩ := S3.form
   rw [plR_len] at S3 ⊢
   go_upto_region 28 with (first | (go_at_call 20; refine (eqPolyS_big ((snV p m LList).1) a3 a1 cap3 cap1 _ _ _ S3 S1 HRL.out).mono ?_; rintro e W9 ⟨rfl, h2⟩; replace M2 := M2.below h2; replace B0 := B0.zw h2; replace hb := hb.trans (h2.mono hb.size)))
   clear S3 S1
   go_wp2_with (first | (go_at_call 26; refine (heldPolyS_big ((snV p m LList).1).length a2 cap2 base2 _ M2 HRL.out).mono ?_; rintro e wS ⟨rfl, rfl⟩; rw [← HK.out]))
   go_ret
   exact ⟨rfl, hb⟩
 · go_wp2_with (first | (go_at_call 14; refine (szPolyS_at aList nList cList (1048576) _ wList (by omega) (by omega)).mono ?_; rintro e wS ⟨rfl, rfl⟩; rw [if_neg hs0]))
   go_ret
   exact ⟨rfl, hb⟩
theorem FnExactSpanOf_walk {w : World} (p : Int) (m : Nat → Nat) (hm : byte m) (aList : Option Addr) (nList cList : Nat) (XList : Nat → Nat → Nat) (xList : ∀ i, byte (XList i)) (wList : nList ≤ maxLen) (lList : Lst w aList nList XList) (w' : World) (hw : w' = w) :
 Calls Try.prog 4 #[.int .i64 p, .agg (zb 64 m), .slice aList nList cList] w fun e w' => e = .returned (.bool true) ∧ Below w.heap.size w w' :=
 FnExactSpanOf_walkA w p m hm aList nList cList XList xList wList lList
end Go.Proofs.Ytelgefgphhebnaa
end
