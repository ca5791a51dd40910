/-
  What the rows of this claim rest on: arrays of bytes, walks of the functions, plain mathematics.
-/
import Derived.Test.YtelgefgphhebnaaZr7
import Derived.WalkKit
import Derived.WalkSpells
import Derived.WalkLawsBesides
import Derived.Lib.Hide
import Derived.Laws.Rows
import Derived.Laws.CopyOwn
import Derived.Deep.QuietTactic
import Derived.Deep.WholeRow
import Derived.Deep.Draws
import Derived.Deep.MidRow
import Derived.Deep.CutRange
import Derived.Deep.DeepCutAuto
import Derived.Deep.RegionHeld3
import Derived.BigQuiet
import Derived.BigRegion
import Derived.Test.YtelgefgphhebnaaRows
import Derived.Great.BuildSlice
import Derived.Laws.Tables
import Derived.Laws.StructEq
import Derived.ScopeJumps
import Derived.Deep.CutBlock
import Derived.OwnWalk
import Derived.RangeFuncNested
import Derived.RangeFuncBound
import Derived.RangeFuncCalls
import Derived.RangeFuncLeaves
import Derived.Shelf.Abstract
import Derived.Shelf.RegionOpen
import Derived.OwnWalkIn
import Derived.TacticsInMore
import Derived.LoopNIn
import Derived.LoopIn
import Derived.Maps.OwnOps
import Derived.DeepKeys4
import Derived.Carry
import Derived.Test.YtelgefgphhebnaaProg
import Derived.Handy
import Derived.Laws.MakeOwn
import Derived.OpenShut
import Derived.ProofKit
import Derived.Deep.Slices
section
namespace Go.Proofs.Ytelgefgphhebnaa
open Go Go.RowKit
set_option linter.unusedVariables false
set_option linter.unusedSimpArgs false
theorem ptL_len (p : Nat) (M : List (Nat → Nat)) (x : Nat → Nat) : (ptL p M x).length ≤ M.length + 1 := by
 have key : ∀ (n : Nat) (y : Nat → Nat) (l : List (Nat → Nat)) (pl : Bool), (puW p n y pl l).length = l.length + (if pl then 0 else 1) := by
  intro n y l
  induction l with
  | nil => intro pl; cases pl <;> simp [puW]
  | cons r l ih =>
   intro pl
   rw [puW]
   split
   · rename_i h
     have hp : pl = false := by cases pl <;> simp_all
     subst hp
     rw [List.length_cons, List.length_cons, ih true]; simp
   · rw [List.length_cons, ih pl, List.length_cons]; omega
 unfold ptL
 split
 · omega
 · rw [key]; simp
theorem spn_le (p : Nat) (L : List (Nat → Nat)) : (spnV p L).length ≤ L.length := by
 have key : ∀ (l : List (Nat → Nat)) (M : List (Nat → Nat)), (l.foldl (ptL p) M).length ≤ M.length + l.length := by
  intro l
  induction l with
  | nil => intro M; simp
  | cons x l ih => intro M; rw [List.foldl_cons]; have := ih (ptL p M x); have h2 := ptL_len p M x; rw [List.length_cons]; omega
 have := key (L.map cut) []
 unfold spnV
 simpa using this
/-- the code of places and a size -/
noncomputable def ccV (p : Int) (m : Nat → Nat) (L : List (Nat → Nat)) (k : Int) : Int := if ckR p m [L] = 0 then (if 1 ≤ k ∧ k ≤ (L.length : Int) ∧ (L.length : Int) ≤ 4 then (if (spnV p.toNat L).length < L.length then 5 else 0) else 2) else 1
theorem ccV_1 {p k : Int} {m : Nat → Nat} {L : List (Nat → Nat)} (h : ckR p m [L] = 1) : ccV p m L k = 1 := by unfold ccV; rw [if_neg (by omega)]
theorem ccV_2 {p k : Int} {m : Nat → Nat} {L : List (Nat → Nat)} (h : ckR p m [L] = 0) (h2 : ¬ (1 ≤ k ∧ k ≤ (L.length : Int) ∧ (L.length : Int) ≤ 4)) : ccV p m L k = 2 := by unfold ccV; rw [if_pos h, if_neg h2]
theorem ccV_5 {n : Nat} {k : Int} {m : Nat → Nat} {L : List (Nat → Nat)} (h : ckR (n : Int) m [L] = 0) (h2 : 1 ≤ k ∧ k ≤ (L.length : Int) ∧ (L.length : Int) ≤ 4) (h3 : (spnV n L).length < L.length) : ccV (n : Int) m L k = 5 := by unfold ccV; rw [if_pos h, if_pos h2, Int.toNat_natCast, if_pos h3]
theorem ccV_0 {n : Nat} {k : Int} {m : Nat → Nat} {L : List (Nat → Nat)} (h : ckR (n : Int) m [L] = 0) (h2 : 1 ≤ k ∧ k ≤ (L.length : Int) ∧ (L.length : Int) ≤ 4) (h3 : ¬ (spnV n L).length < L.length) : ccV (n : Int) m L k = 0 := by unfold ccV; rw [if_pos h, if_pos h2, Int.toNat_natCast, if_neg h3]
theorem ccV_zero {p k : Int} {m : Nat → Nat} {L : List (Nat → Nat)} (h : ccV p m L k = 0) : ckR p m [L] = 0 ∧ (1 ≤ k ∧ k ≤ (L.length : Int) ∧ (L.length : Int) ≤ 4) := by
 unfold ccV at h
 split at h
 · rename_i h1
   split at h
   · rename_i h2; exact ⟨h1, h2⟩
   · omega
 · omega
noncomputable def lrV (p : Int) (m : Nat → Nat) (L : List (Nat → Nat)) (k : Int) : Int × Int := if ccV p m L k = 0 then ((L.length : Int) - k + 1, 0) else (0, ccV p m L k)
theorem lrV_0 {p k : Int} {m : Nat → Nat} {L : List (Nat → Nat)} (h : ccV p m L k = 0) : lrV p m L k = ((L.length : Int) - k + 1, 0) := if_pos h
theorem lrV_n {p k : Int} {m : Nat → Nat} {L : List (Nat → Nat)} (h : ccV p m L k ≠ 0) : lrV p m L k = (0, ccV p m L k) := if_neg h
theorem ckR_nil {p : Int} {m : Nat → Nat} {L : List (Nat → Nat)} (h : ckR p m [L] = 0) : ckR p m [] = 0 := ckR_yes (ckR_zero h).1 (fun i x hx => by simp at hx)
attribute [irreducible] ccV lrV
attribute [local irreducible] deg flV
set_option maxRecDepth 100000 in
set_option maxHeartbeats 3200000 in
theorem checkCode0_any (p s : Int) (m : Nat → Nat) (Lr : List (Nat → Nat)) (a : Option Addr) (cap base : Nat) (w : World) (hm : byte m) (hLb : ∀ x, x ∈ Lr → byte x) (hlen : (Lr.length : Int) ≤ 1048576) (hL : SlL w base 28 64 (.slice a Lr.length cap) (plR Lr)) :
 Calls Try.prog 61 #[.int .i64 p, .agg (zb 64 m), .slice a Lr.length cap, .int .i64 s, .slice none 0 0] w fun e w' => e = .returned (.int .i64 (ccV p m Lr s)) ∧ Below w.heap.size w w' := by
 have HCK := Lib.hid (fun W W2 b (hW : Below w.heap.size w W) (hy : Below W.heap.size W W2) (hR : Row W2 b 30 [Value.slice a Lr.length cap].toArray) => checkResidues_any p m hm [Lr] [.slice a Lr.length cap] (.slice (some ⟨b, 0, none⟩) 1 1) W2 (fun L h => by rw [List.mem_singleton] at h; subst h; exact ⟨hLb, hlen⟩) (by simp) (LsV.one ((hL.zw hW).below hy (hL.zw hW).lt)) (LsS.row (vs := [Value.slice a Lr.length cap]) hR))
 have HCN := Lib.hid (fun W => checkResidues_any p m hm [] [] (.slice none 0 0) W (fun L h => by simp at h) (by simp) (LsV.none W) (LsS.nil W))
 go_enter Try.func61, Try.ntmps61
 go_upto_region 1 with (fail)
 obtain ⟨W1, hwo⟩ : ∃ v : World, v = (w.alloc (.cells (zb 64 (m)) 28)) := ⟨_, rfl⟩
 have B0 : Blk W1 (w.heap.size) 64 28 (m) := by subst hwo; have := (Blk.new w 64 28 (m)); simpa using this
 have hb : Below w.heap.size w W1 := by subst hwo; exact ((Below.refl _ _).alloc (Nat.le_refl _) _)
 rw [← hwo]
 clear hwo
 rcases ckR_two p m [Lr] with hc | hc
 · have hcn := ckR_nil hc
   go_upto_region 3 with (first | (refine zla (.tmp 6) B0 Try.underlying28 Try.size28 ?_) | (refine zlg rfl 28 (.tmp 6) rfl _ rfl 64 28 _ B0 _ Try.underlying28 rfl Try.size28 ?_) | (refine wpList_build_one rfl 25 _ (.slice a Lr.length cap) rfl rfl 30 Try.underlying25 Try.elemSl rfl ?_; intro wa hrw hba) | (go_at_call 55; with_reducible refine (HCK.out _ _ _ hb hba hrw).mono ?_; rintro e W5 ⟨rfl, h5⟩; replace B0 := (B0.zw hba).below h5 (B0.zw hba).lt; replace hb := (hb.trans (hba.mono hb.size)).trans (h5.mono (hb.trans (hba.mono hb.size)).size); rw [hc]) | (go_at_call 55; with_reducible refine (HCN.out _).mono ?_; rintro e W6 ⟨rfl, h6⟩; replace B0 := B0.zw h6; replace hb := hb.trans (h6.mono hb.size); rw [hcn]))
   by_cases hin : 1 ≤ s ∧ s ≤ (Lr.length : Int) ∧ (Lr.length : Int) ≤ 4
   · obtain ⟨n, d, rfl, hpr, _, _, _, d4, _, hg⟩ := ck_fld hc
     have hg1 := hg Lr (by simp)
     obtain ⟨i1, i2, i3⟩ := hin
     have j1 : ¬ (Lr.length : Int) > 4 := by omega
     have j2 : ¬ s < 1 := by omega
     have j3 : ¬ s > (Lr.length : Int) := by omega
     have hin2 := And.intro i1 (And.intro i2 i3)
     have HC := Lib.hid hc
     have HIN := Lib.hid hin2
     clear hc hcn hg i1 i2 i3 hin2 HCK HCN
     have HRA := Lib.hid (fun W (hW : Below w.heap.size w W) => rank_any n d m Lr a cap base W hpr d4 hg1 hlen (hL.zw hW))
     by_cases hr : (spnV n Lr).length < Lr.length
     · have HV := Lib.hid (ccV_5 HC.out HIN.out hr)
       have hrI : ((spnV n Lr).length : Int) < (Lr.length : Int) := by omega
       clear hr HC
       go_wp2_with fail
       go_loopw [42] (fun c wr => c = .int .i64 0 ∧ Below w.heap.size w wr ∧ Blk wr (w.heap.size) 64 28 (m)) (fun _ _ => 0)
       case atStart => exact ⟨rfl, hb, B0⟩
       case round =>
        clear hb B0
        obtain ⟨rfl, hb, B0⟩ := hrel
        go_wp2_with (first | (refine zla (.tmp 6) B0 Try.underlying28 Try.size28 ?_) | (refine zbo rfl 70 _ rfl (fdC (n : Int) m).toArray (by rw [Array.toList_map]; exact built_fd (n : Int) m) ?_) | (go_at_call 57; refine (HRA.out _ hb).mono ?_; rintro e W7 ⟨rfl, h7⟩; replace hb := hb.trans (h7.mono hb.size)))
        go_ret
        exact ⟨(by rw [HV.out] <;> rfl), hb⟩
     · have HV := Lib.hid (ccV_0 HC.out HIN.out hr)
       have hrI : ¬ ((spnV n Lr).length : Int) < (Lr.length : Int) := by omega
       clear hr HC
       go_wp2_with fail
       go_loopw [42] (fun c wr => c = .int .i64 0 ∧ Below w.heap.size w wr ∧ Blk wr (w.heap.size) 64 28 (m)) (fun _ _ => 0)
       case atStart => exact ⟨rfl, hb, B0⟩
       case round =>
        clear hb B0
        obtain ⟨rfl, hb, B0⟩ := hrel
        go_wp2_with (first | (refine zla (.tmp 6) B0 Try.underlying28 Try.size28 ?_) | (refine zbo rfl 70 _ rfl (fdC (n : Int) m).toArray (by rw [Array.toList_map]; exact built_fd (n : Int) m) ?_) | (go_at_call 57; refine (HRA.out _ hb).mono ?_; rintro e W7 ⟨rfl, h7⟩; replace hb := hb.trans (h7.mono hb.size)))
        go_ret
        exact ⟨(by rw [HV.out] <;> rfl), hb⟩
   · have HV := Lib.hid (ccV_2 hc hin)
     clear hc hcn HCK HCN
     by_cases j1 : (Lr.length : Int) > 4
     · clear hin
       go_wp2_with fail
       go_ret
       exact ⟨(by rw [HV.out] <;> rfl), hb⟩
     · by_cases j2 : s < 1
       · clear hin
         go_wp2_with fail
         go_ret
         exact ⟨(by rw [HV.out] <;> rfl), hb⟩
       · have j3 : s > (Lr.length : Int) := by omega
         clear hin
         go_wp2_with fail
         go_ret
         exact ⟨(by rw [HV.out] <;> rfl), hb⟩
 · have HV := Lib.hid (ccV_1 (k := s) hc)
   go_wp2_with (first | (refine zla (.tmp 6) B0 Try.underlying28 Try.size28 ?_) | (refine zlg rfl 28 (.tmp 6) rfl _ rfl 64 28 _ B0 _ Try.underlying28 rfl Try.size28 ?_) | (refine wpList_build_one rfl 25 _ (.slice a Lr.length cap) rfl rfl 30 Try.underlying25 Try.elemSl rfl ?_; intro wa hrw hba) | (go_at_call 55; with_reducible refine (HCK.out _ _ _ hb hba hrw).mono ?_; rintro e W5 ⟨rfl, h5⟩; replace B0 := (B0.zw hba).below h5 (B0.zw hba).lt; replace hb := (hb.trans (hba.mono hb.size)).trans (h5.mono (hb.trans (hba.mono hb.size)).size); rw [hc]))
   go_ret
   exact ⟨(by rw [HV.out] <;> rfl), hb⟩
noncomputable def coV (p : Int) (m : Nat → Nat) (L : List (Nat → Nat)) : Int := if ckR p m [L] = 0 then (if 1 ≤ (L.length : Int) ∧ (L.length : Int) ≤ 4 then (if (spnV p.toNat L).length < L.length then 5 else 0) else 2) else 1
theorem coV_1 {p : Int} {m : Nat → Nat} {L : List (Nat → Nat)} (h : ckR p m [L] = 1) : coV p m L = 1 := by unfold coV; rw [if_neg (by omega)]
theorem coV_2 {p : Int} {m : Nat → Nat} {L : List (Nat → Nat)} (h : ckR p m [L] = 0) (h2 : ¬ (1 ≤ (L.length : Int) ∧ (L.length : Int) ≤ 4)) : coV p m L = 2 := by unfold coV; rw [if_pos h, if_neg h2]
theorem coV_5 {n : Nat} {m : Nat → Nat} {L : List (Nat → Nat)} (h : ckR (n : Int) m [L] = 0) (h2 : 1 ≤ (L.length : Int) ∧ (L.length : Int) ≤ 4) (h3 : (spnV n L).length < L.length) : coV (n : Int) m L = 5 := by unfold coV; rw [if_pos h, if_pos h2, Int.toNat_natCast, if_pos h3]
theorem coV_0 {n : Nat} {m : Nat → Nat} {L : List (Nat → Nat)} (h : ckR (n : Int) m [L] = 0) (h2 : 1 ≤ (L.length : Int) ∧ (L.length : Int) ≤ 4) (h3 : ¬ (spnV n L).length < L.length) : coV (n : Int) m L = 0 := by unfold coV; rw [if_pos h, if_pos h2, Int.toNat_natCast, if_neg h3]
theorem cc_co {p k : Int} {m : Nat → Nat} {L : List (Nat → Nat)} : ccV p m L k = if (coV p m L = 0 ∨ coV p m L = 5) ∧ ¬ (1 ≤ k ∧ k ≤ (L.length : Int)) then 2 else coV p m L := by
 unfold ccV coV
 by_cases h1 : ckR p m [L] = 0
 · rw [if_pos h1, if_pos h1]
   by_cases h2 : 1 ≤ (L.length : Int) ∧ (L.length : Int) ≤ 4
   · rw [if_pos h2]
     by_cases h3 : 1 ≤ k ∧ k ≤ (L.length : Int)
     · rw [if_pos ⟨h3.1, h3.2, h2.2⟩]
       split <;> simp [h3.1, h3.2]
     · rw [if_neg (fun x => h3 ⟨x.1, x.2.1⟩)]
       split <;> rw [if_pos ⟨by omega, h3⟩]
   · rw [if_neg h2, if_neg (by omega), if_neg (by omega)]
 · rw [if_neg h1, if_neg h1, if_neg (by omega)]
theorem coV_b (p : Int) (m : Nat → Nat) (L : List (Nat → Nat)) : coV p m L = 0 ∨ coV p m L = 5 ∨ coV p m L = 1 ∨ coV p m L = 2 := by
 unfold coV
 split
 · split
   · split <;> simp
   · simp
 · simp
attribute [irreducible] coV
set_option maxRecDepth 100000 in
set_option maxHeartbeats 3200000 in
theorem l09Code_any (p : Int) (m : Nat → Nat) (Lr : List (Nat → Nat)) (a : Option Addr) (cap base : Nat) (w : World) (hm : byte m) (hLb : ∀ x, x ∈ Lr → byte x) (hlen : (Lr.length : Int) ≤ 1048576) (hL : SlL w base 28 64 (.slice a Lr.length cap) (plR Lr)) :
 Calls Try.prog 102 #[.int .i64 p, .agg (zb 64 m), .slice a Lr.length cap, .slice a Lr.length cap, .int .i64 (Lr.length : Int), .int .i64 (Lr.length : Int)] w fun e w' => e = .returned (.int .i64 (coV p m Lr)) ∧ Below w.heap.size w w' := by
 have HCK := Lib.hid (fun W (hW : Below w.heap.size w W) => l03Residues_any p m hm Lr a cap base W hLb hlen (hL.zw hW))
 go_enter Try.func102, Try.ntmps102
 go_upto_region 1 with (fail)
 obtain ⟨W1, hwo⟩ : ∃ v : World, v = (w.alloc (.cells (zb 64 (m)) 28)) := ⟨_, rfl⟩
 have B0 : Blk W1 (w.heap.size) 64 28 (m) := by subst hwo; have := (Blk.new w 64 28 (m)); simpa using this
 have hb : Below w.heap.size w W1 := by subst hwo; exact ((Below.refl _ _).alloc (Nat.le_refl _) _)
 rw [← hwo]
 clear hwo
 rcases ckR_two p m [Lr] with hc | hc
 · go_upto_region 3 with (first | (refine zla (.tmp 7) B0 Try.underlying28 Try.size28 ?_) | (refine zlg rfl 28 (.tmp 7) rfl _ rfl 64 28 _ B0 _ Try.underlying28 rfl Try.size28 ?_) | (go_at_call 53; refine (HCK.out _ hb).mono ?_; rintro e W5 ⟨rfl, h5⟩; replace B0 := B0.zw h5; replace hb := hb.trans (h5.mono hb.size); rw [hc]))
   by_cases hin : 1 ≤ (Lr.length : Int) ∧ (Lr.length : Int) ≤ 4
   · obtain ⟨n, d, rfl, hpr, _, _, _, d4, _, hg⟩ := ck_fld hc
     have hg1 := hg Lr (by simp)
     have j0 : ¬ (Lr.length : Int) < 1 := by omega
     have j1 : ¬ (Lr.length : Int) > 4 := by omega
     have j2 : ¬ (Lr.length : Int) < (Lr.length : Int) := by omega
     have j3 : ¬ (Lr.length : Int) > (Lr.length : Int) := by omega
     have hsl := spn_le n Lr
     have HC := Lib.hid hc
     have HIN := Lib.hid hin
     clear hc hg hin HCK
     have HRA := Lib.hid (fun W (hW : Below w.heap.size w W) => l09Span_any n d Lr a cap base W hpr d4 hg1 hlen (hL.zw hW))
     by_cases hr : (spnV n Lr).length < Lr.length
     · have HV := Lib.hid (coV_5 HC.out HIN.out hr)
       have hrI : ((((spnV n Lr).length : Nat) : Int) != ((Lr.length : Nat) : Int)) = true := by simp; omega
       clear hr HC
       go_wp2_with (first | (go_at_call 54; refine (HRA.out _ hb).mono ?_; rintro e W7 ⟨a2, c2, rfl, hS7, h7⟩; replace hb := hb.trans (h7.mono hb.size)))
       go_ret
       exact ⟨(by rw [HV.out] <;> rfl), hb⟩
     · have HV := Lib.hid (coV_0 HC.out HIN.out hr)
       have hrI : ((((spnV n Lr).length : Nat) : Int) != ((Lr.length : Nat) : Int)) = false := by simp; omega
       clear hr HC
       go_wp2_with (first | (go_at_call 54; refine (HRA.out _ hb).mono ?_; rintro e W7 ⟨a2, c2, rfl, hS7, h7⟩; replace hb := hb.trans (h7.mono hb.size)))
       go_ret
       exact ⟨(by rw [HV.out] <;> rfl), hb⟩
   · have HV := Lib.hid (coV_2 hc hin)
     clear hc HCK
     by_cases j0 : (Lr.length : Int) < 1
     · clear hin
       go_wp2_with fail
       go_ret
       exact ⟨(by rw [HV.out] <;> rfl), hb⟩
     · have j1 : (Lr.length : Int) > 4 := by omega
       clear hin
       go_wp2_with fail
       go_ret
       exact ⟨(by rw [HV.out] <;> rfl), hb⟩
 · have HV := Lib.hid (coV_1 hc)
   go_wp2_with (first | (refine zla (.tmp 7) B0 Try.underlying28 Try.size28 ?_) | (refine zlg rfl 28 (.tmp 7) rfl _ rfl 64 28 _ B0 _ Try.underlying28 rfl Try.size28 ?_) | (go_at_call 53; refine (HCK.out _ hb).mono ?_; rintro e W5 ⟨rfl, h5⟩; replace B0 := B0.zw h5; replace hb := hb.trans (h5.mono hb.size); rw [hc]))
   go_ret
   exact ⟨(by rw [HV.out] <;> rfl), hb⟩
set_option maxRecDepth 100000 in
set_option maxHeartbeats 3200000 in
theorem l09Sized_any (p s : Int) (m : Nat → Nat) (Lr : List (Nat → Nat)) (a : Option Addr) (cap base : Nat) (w : World) (hm : byte m) (hLb : ∀ x, x ∈ Lr → byte x) (hlen : (Lr.length : Int) ≤ 1048576) (hL : SlL w base 28 64 (.slice a Lr.length cap) (plR Lr)) :
 Calls Try.prog 60 #[.int .i64 p, .agg (zb 64 m), .slice a Lr.length cap, .int .i64 s, .slice a Lr.length cap] w fun e w' => e = .returned (.int .i64 (ccV p m Lr s)) ∧ Below w.heap.size w w' := by
 have HCK := Lib.hid (fun W (hW : Below w.heap.size w W) => l09Code_any p m Lr a cap base W hm hLb hlen (hL.zw hW))
 have HCC := Lib.hid (cc_co (p := p) (k := s) (m := m) (L := Lr))
 go_enter Try.func60, Try.ntmps60
 go_upto_region 1 with (fail)
 obtain ⟨W1, hwo⟩ : ∃ v : World, v = (w.alloc (.cells (zb 64 (m)) 28)) := ⟨_, rfl⟩
 have B0 : Blk W1 (w.heap.size) 64 28 (m) := by subst hwo; have := (Blk.new w 64 28 (m)); simpa using this
 have hb : Below w.heap.size w W1 := by subst hwo; exact ((Below.refl _ _).alloc (Nat.le_refl _) _)
 rw [← hwo]
 clear hwo
 rcases coV_b p m Lr with hc | hc | hc | hc
 · by_cases hin : 1 ≤ s ∧ s ≤ (Lr.length : Int)
   · have HV := Lib.hid (show ccV p m Lr s = 0 by rw [HCC.out, if_neg (fun x => x.2 hin)]; exact hc)
     have hd : decide ((1 : Int) ≤ s ∧ s ≤ (Lr.length : Int)) = true := by simp; omega
     clear HCC
     go_upto_region 2 with (first | (refine zla (.tmp 6) B0 Try.underlying28 Try.size28 ?_) | (go_at_call 102; refine (HCK.out _ hb).mono ?_; rintro e W5 ⟨rfl, h5⟩; replace B0 := B0.zw h5; replace hb := hb.trans (h5.mono hb.size); rw [hc]))
     clear hc
     go_wp2_with (go_at_call 103; refine (l01In_any _ _ _ _).mono ?_; rintro e wS ⟨rfl, rfl⟩; rw [hd])
     go_ret
     exact ⟨(by rw [HV.out] <;> rfl), hb⟩
   · have HV := Lib.hid (show ccV p m Lr s = 2 by rw [HCC.out, if_pos ⟨by omega, hin⟩])
     have hd : decide ((1 : Int) ≤ s ∧ s ≤ (Lr.length : Int)) = false := by simp; omega
     clear HCC
     go_upto_region 2 with (first | (refine zla (.tmp 6) B0 Try.underlying28 Try.size28 ?_) | (go_at_call 102; refine (HCK.out _ hb).mono ?_; rintro e W5 ⟨rfl, h5⟩; replace B0 := B0.zw h5; replace hb := hb.trans (h5.mono hb.size); rw [hc]))
     clear hc
     go_wp2_with (go_at_call 103; refine (l01In_any _ _ _ _).mono ?_; rintro e wS ⟨rfl, rfl⟩; rw [hd])
     go_ret
     exact ⟨(by rw [HV.out] <;> rfl), hb⟩
 · by_cases hin : 1 ≤ s ∧ s ≤ (Lr.length : Int)
   · have HV := Lib.hid (show ccV p m Lr s = 5 by rw [HCC.out, if_neg (fun x => x.2 hin)]; exact hc)
     have hd : decide ((1 : Int) ≤ s ∧ s ≤ (Lr.length : Int)) = true := by simp; omega
     clear HCC
     go_upto_region 2 with (first | (refine zla (.tmp 6) B0 Try.underlying28 Try.size28 ?_) | (go_at_call 102; refine (HCK.out _ hb).mono ?_; rintro e W5 ⟨rfl, h5⟩; replace B0 := B0.zw h5; replace hb := hb.trans (h5.mono hb.size); rw [hc]))
     clear hc
     go_wp2_with (go_at_call 103; refine (l01In_any _ _ _ _).mono ?_; rintro e wS ⟨rfl, rfl⟩; rw [hd])
     go_ret
     exact ⟨(by rw [HV.out] <;> rfl), hb⟩
   · have HV := Lib.hid (show ccV p m Lr s = 2 by rw [HCC.out, if_pos ⟨by omega, hin⟩])
     have hd : decide ((1 : Int) ≤ s ∧ s ≤ (Lr.length : Int)) = false := by simp; omega
     clear HCC
     go_upto_region 2 with (first | (refine zla (.tmp 6) B0 Try.underlying28 Try.size28 ?_) | (go_at_call 102; refine (HCK.out _ hb).mono ?_; rintro e W5 ⟨rfl, h5⟩; replace B0 := B0.zw h5; replace hb := hb.trans (h5.mono hb.size); rw [hc]))
     clear hc
     go_wp2_with (go_at_call 103; refine (l01In_any _ _ _ _).mono ?_; rintro e wS ⟨rfl, rfl⟩; rw [hd])
     go_ret
     exact ⟨(by rw [HV.out] <;> rfl), hb⟩
 · have HV := Lib.hid (show ccV p m Lr s = 1 by rw [HCC.out, if_neg (by omega)]; exact hc)
   clear HCC
   go_upto_region 2 with (first | (refine zla (.tmp 6) B0 Try.underlying28 Try.size28 ?_) | (go_at_call 102; refine (HCK.out _ hb).mono ?_; rintro e W5 ⟨rfl, h5⟩; replace B0 := B0.zw h5; replace hb := hb.trans (h5.mono hb.size); rw [hc]))
   clear hc
   go_wp2_with fail
   go_ret
   exact ⟨(by rw [HV.out] <;> rfl), hb⟩
 · have HV := Lib.hid (show ccV p m Lr s = 2 by rw [HCC.out, if_neg (by omega)]; exact hc)
   clear HCC
   go_upto_region 2 with (first | (refine zla (.tmp 6) B0 Try.underlying28 Try.size28 ?_) | (go_at_call 102; refine (HCK.out _ hb).mono ?_; rintro e W5 ⟨rfl, h5⟩; replace B0 := B0.zw h5; replace hb := hb.trans (h5.mono hb.size); rw [hc]))
   clear hc
   go_wp2_with fail
   go_ret
   exact ⟨(by rw [HV.out] <;> rfl), hb⟩
set_option maxRecDepth 100000 in
set_option maxHeartbeats 3200000 in
theorem impl_LeastRank_any (p : Int) (m : Nat → Nat) (Lr : List (Nat → Nat)) (s : Int) (a : Option Addr) (cap base : Nat) (w : World) (hm : byte m) (hLb : ∀ x, x ∈ Lr → byte x) (hlen : (Lr.length : Int) ≤ 1048576) (hL : SlL w base 28 64 (.slice a Lr.length cap) (plR Lr)) :
 Calls Try.prog 32 #[.int .i64 p, .agg (zb 64 m), .slice a Lr.length cap, .int .i64 s] w fun e w' => e = .returned (.tuple #[.int .i64 (lrV p m Lr s).1, .int .i64 (lrV p m Lr s).2]) ∧ Below w.heap.size w w' := by
 have HCK := Lib.hid (fun W (hW : Below w.heap.size w W) => checkCode0_any p s m Lr a cap base W hm hLb hlen (hL.zw hW))
 obtain ⟨C, hC⟩ : ∃ C, ccV p m Lr s = C := ⟨_, rfl⟩
 go_enter Try.func32, Try.ntmps32
 go_upto_region 1 with (fail)
 obtain ⟨W1, hwo⟩ : ∃ v : World, v = (w.alloc (.cells (zb 64 (m)) 28)) := ⟨_, rfl⟩
 have B0 : Blk W1 (w.heap.size) 64 28 (m) := by subst hwo; have := (Blk.new w 64 28 (m)); simpa using this
 have hb : Below w.heap.size w W1 := by subst hwo; exact ((Below.refl _ _).alloc (Nat.le_refl _) _)
 rw [← hwo]
 clear hwo
 go_upto_region 2 with (first | (refine zla (.tmp 5) B0 Try.underlying28 Try.size28 ?_) | (go_at_call 61; refine (HCK.out _ hb).mono ?_; rintro e W5 ⟨rfl, h5⟩; replace B0 := B0.zw h5; replace hb := hb.trans (h5.mono hb.size); rw [hC]))
 by_cases h0 : C = 0
 · have hc := hC.trans h0
   subst h0
   have HV := Lib.hid (lrV_0 hc)
   obtain ⟨_, i1, i2, i3⟩ := ccV_zero hc
   clear hC hc HCK
   go_wp2_with fail
   go_ret2
   exact ⟨by rw [HV.out]; rfl, hb⟩
 · have HV := Lib.hid (lrV_n (show ccV p m Lr s ≠ 0 by rw [hC]; exact h0))
   rw [hC] at HV
   have hC1 : (C != 0) = true := by simp [h0]
   clear hC HCK
   go_wp2_with fail
   go_ret2
   exact ⟨by rw [HV.out]; rfl, hb⟩
set_option maxRecDepth 100000 in
set_option maxHeartbeats 3200000 in
theorem spec_LeastRank_any (p : Int) (m : Nat → Nat) (Lr : List (Nat → Nat)) (s : Int) (a : Option Addr) (cap base : Nat) (w : World) (hm : byte m) (hLb : ∀ x, x ∈ Lr → byte x) (hlen : (Lr.length : Int) ≤ 1048576) (hL : SlL w base 28 64 (.slice a Lr.length cap) (plR Lr)) :
 Calls Try.prog 31 #[.int .i64 p, .agg (zb 64 m), .slice a Lr.length cap, .int .i64 s] w fun e w' => e = .returned (.tuple #[.int .i64 (lrV p m Lr s).1, .int .i64 (lrV p m Lr s).2]) ∧ Below w.heap.size w w' := by
 have HCK := Lib.hid (fun W (hW : Below w.heap.size w W) => l09Sized_any p s m Lr a cap base W hm hLb hlen (hL.zw hW))
 obtain ⟨C, hC⟩ : ∃ C, ccV p m Lr s = C := ⟨_, rfl⟩
 go_enter Try.func31, Try.ntmps31
 go_upto_region 1 with (fail)
 obtain ⟨W1, hwo⟩ : ∃ v : World, v = (w.alloc (.cells (zb 64 (m)) 28)) := ⟨_, rfl⟩
 have B0 : Blk W1 (w.heap.size) 64 28 (m) := by subst hwo; have := (Blk.new w 64 28 (m)); simpa using this
 have hb : Below w.heap.size w W1 := by subst hwo; exact ((Below.refl _ _).alloc (Nat.le_refl _) _)
 rw [← hwo]
 clear hwo
 go_upto_region 2 with (first | (refine zla (.tmp 5) B0 Try.underlying28 Try.size28 ?_) | (go_at_call 60; refine (HCK.out _ hb).mono ?_; rintro e W5 ⟨rfl, h5⟩; replace B0 := B0.zw h5; replace hb := hb.trans (h5.mono hb.size); rw [hC]))
 by_cases h0 : C = 0
 · have hc := hC.trans h0
   subst h0
   have HV := Lib.hid (lrV_0 hc)
   obtain ⟨_, i1, i2, i3⟩ := ccV_zero hc
   clear hC hc HCK
   go_wp2_with fail
   go_ret2
   exact ⟨by rw [HV.out]; rfl, hb⟩
 · have HV := Lib.hid (lrV_n (show ccV p m Lr s ≠ 0 by rw [hC]; exact h0))
   rw [hC] at HV
   have hC1 : (C != 0) = true := by simp [h0]
   clear hC HCK
   go_wp2_with fail
   go_ret2
   exact ⟨by rw [HV.out]; rfl, hb⟩
end Go.Proofs.Ytelgefgphhebnaa
end
section
namespace Go.Proofs.Ytelgefgphhebnaa
open Go Go.RowKit
set_option linter.unusedVariables false
set_option linter.unusedSimpArgs false
set_option maxRecDepth 100000 in
set_option maxHeartbeats 3200000 in
theorem FnExactLeastRank_walkA (w : World) (p : Int) (m : Nat → Nat) (hm : byte m) (aPlaces : Option Addr) (nPlaces cPlaces : Nat) (XPlaces : Nat → Nat → Nat) (xPlaces : ∀ i, byte (XPlaces i)) (wPlaces : nPlaces ≤ maxLen) (k : Int) (lPlaces : Lst w aPlaces nPlaces XPlaces) :
 Calls Try.prog 7 #[.int .i64 p, .agg (zb 64 m), .slice aPlaces nPlaces cPlaces, .int .i64 k] w fun e w' => e = .returned (.bool true) ∧ Below w.heap.size w w' := by
 go_enter Try.func7, Try.ntmps7
 go_upto_region 1 with (fail)
 obtain ⟨W1, hwo⟩ : ∃ v : World, v = (w.alloc (.cells (zb 64 (m)) 22)) := ⟨_, rfl⟩
 have B0 : Blk W1 (w.heap.size) 64 22 (m) := by subst hwo; have := (Blk.new w 64 22 (m)); simpa using this
 have hb : Below w.heap.size w W1 := by subst hwo; exact ((Below.refl _ _).alloc (Nat.le_refl _) _)
 rw [← hwo]
 clear hwo
 by_cases hs0 : (nPlaces : Int) ≤ 1048576
 · have hneg0 : ¬ (1048576 - (nPlaces : Int) < 0) := by omega
   go_upto_region 5 with (first | (go_at_call 14; refine (szPolyS_at aPlaces nPlaces cPlaces (1048576) _ wPlaces (by omega) (by omega)).mono ?_; rintro e wS ⟨rfl, rfl⟩; rw [if_pos hs0]))
   have hm0 : (nPlaces : Int) ≤ 1048576 := by omega
   obtain ⟨LPlaces, hLPlaces⟩ : ∃ L : List (Nat → Nat), L = (List.range nPlaces).map XPlaces := ⟨_, rfl⟩
   have hlPlaces : LPlaces.length = nPlaces := by rw [hLPlaces]; simp
   have hbyPlaces : ∀ z, z ∈ LPlaces → byte z := fun z hz => by rw [hLPlaces] at hz; obtain ⟨i, _, rfl⟩ := List.mem_map.1 hz; exact xPlaces i
   have hlenPlaces : (LPlaces.length : Int) ≤ 1048576 := by omega
   have HTOPlaces := Lib.hid (fun W (hW : Below w.heap.size w W) => hLPlaces ▸ toPolyS_any aPlaces nPlaces cPlaces XPlaces xPlaces W (lPlaces.below hW) hm0)
   have HEQPlaces := Lib.hid (fun b b2 q q2 W h1 h2 => show Calls Try.prog 20 #[.slice (some ⟨b, 0, none⟩) nPlaces nPlaces, .slice (some ⟨b2, 0, none⟩) nPlaces nPlaces] W _ from hlPlaces ▸ eqPolyS_big LPlaces (some ⟨b, 0, none⟩) (some ⟨b2, 0, none⟩) LPlaces.length LPlaces.length q q2 W (hlPlaces ▸ h1) (hlPlaces ▸ h2) (by omega))
   clear hLPlaces
   have HSP := Lib.hid (fun (W : World) (bPlaces : Nat) (qPlaces : Nat) (sPlaces : SlL W qPlaces 28 64 (.slice (some ⟨bPlaces, 0, none⟩) nPlaces nPlaces) (plR LPlaces)) => show Calls Try.prog 31 #[.int .i64 p, .agg (zb 64 m), .slice (some ⟨bPlaces, 0, none⟩) nPlaces nPlaces, .int .i64 k] W _ from by
    have := spec_LeastRank_any p m LPlaces k (some ⟨bPlaces, 0, none⟩) LPlaces.length qPlaces W hm hbyPlaces hlenPlaces (hlPlaces ▸ sPlaces)
    rw [hlPlaces] at this
    exact this)
   have HIM := Lib.hid (fun (W : World) (bPlaces : Nat) (qPlaces : Nat) (sPlaces : SlL W qPlaces 28 64 (.slice (some ⟨bPlaces, 0, none⟩) nPlaces nPlaces) (plR LPlaces)) => show Calls Try.prog 32 #[.int .i64 p, .agg (zb 64 m), .slice (some ⟨bPlaces, 0, none⟩) nPlaces nPlaces, .int .i64 k] W _ from by
    have := impl_LeastRank_any p m LPlaces k (some ⟨bPlaces, 0, none⟩) LPlaces.length qPlaces W hm hbyPlaces hlenPlaces (hlPlaces ▸ sPlaces)
    rw [hlPlaces] at this
    exact this)
   clear hbyPlaces
   have hne0 : (((lrV p m LPlaces k).1) != ((lrV p m LPlaces k).1)) = false := by simp
   have hne1 : (((lrV p m LPlaces k).2) != ((lrV p m LPlaces k).2)) = false := by simp
   go_upto_region 6 with (first | (refine zla (.tmp 5) B0 Try.underlying22 Try.size22 ?_) | (go_at_call 16; refine (toPoly_any m hm _).mono ?_; rintro e W1 ⟨rfl, h2⟩; replace B0 := B0.zw h2; replace hb := hb.trans (h2.mono hb.size)) | (go_at_call 17; with_reducible refine (HTOPlaces.out _ hb).mono ?_; rintro e W2 ⟨bPlaces, rfl, hsPlaces, _, h2⟩; replace B0 := B0.zw h2; replace hb := hb.trans (h2.mono hb.size)) | (go_at_call 31; refine (HSP.out _ _ _ hsPlaces).mono ?_; rintro e W3 ⟨rfl, h2⟩; replace B0 := B0.zw h2; replace hb := hb.trans (h2.mono hb.size)))
   clear hsPlaces HSP
   go_upto_region 7 with (first | (go_at_call 17; with_reducible refine (HTOPlaces.out _ hb).mono ?_; rintro e W2 ⟨bPlaces, rfl, hsPlaces, _, h2⟩; replace B0 := B0.zw h2; replace hb := hb.trans (h2.mono hb.size)))
   go_upto_region 8 with (first | (refine zla (.tmp 5) B0 Try.underlying22 Try.size22 ?_) | (go_at_call 16; refine (toPoly_any m hm _).mono ?_; rintro e W1 ⟨rfl, h2⟩; try (replace hsPlaces := hsPlaces.zw h2); replace B0 := B0.zw h2; replace hb := hb.trans (h2.mono hb.size)) | (go_at_call 32; refine (HIM.out _ _ _ hsPlaces).mono ?_; rintro e W3 ⟨rfl, h2⟩; try (replace hsPlaces := hsPlaces.zw h2); replace B0 := B0.zw h2; replace hb := hb.trans (h2.mono hb.size)))
   clear HIM
   go_upto_region 10 with (fail)
   go_wp2_with (first | (go_at_call 17; with_reducible refine (HTOPlaces.out _ hb).mono ?_; rintro e W2 ⟨yPlaces, rfl, zPlaces, _, h2⟩; try (replace hsPlaces := hsPlaces.zw h2); replace B0 := B0.zw h2; replace hb := hb.trans (h2.mono hb.size)) | (go_at_call 20; refine (HEQPlaces.out _ _ _ _ _ hsPlaces zPlaces).mono ?_; rintro e W4 ⟨rfl, h2⟩; replace B0 := B0.zw h2; replace hb := hb.trans (h2.mono hb.size)))
   go_ret
   exact ⟨rfl, hb⟩
 · go_wp2_with (first | (go_at_call 14; refine (szPolyS_at aPlaces nPlaces cPlaces (1048576) _ wPlaces (by omega) (by omega)).mono ?_; rintro e wS ⟨rfl, rfl⟩; rw [if_neg hs0]))
   go_ret
   exact ⟨rfl, hb⟩
theorem FnExactLeastRank_walk {w : World} (p : Int) (m : Nat → Nat) (hm : byte m) (aPlaces : Option Addr) (nPlaces cPlaces : Nat) (XPlaces : Nat → Nat → Nat) (xPlaces : ∀ i, byte (XPlaces i)) (wPlaces : nPlaces ≤ maxLen) (lPlaces : Lst w aPlaces nPlaces XPlaces) (k : Int) (w' : World) (hw : w' = w) :
 Calls Try.prog 7 #[.int .i64 p, .agg (zb 64 m), .slice aPlaces nPlaces cPlaces, .int .i64 k] w fun e w' => e = .returned (.bool true) ∧ Below w.heap.size w w' :=
 FnExactLeastRank_walkA w p m hm aPlaces nPlaces cPlaces XPlaces xPlaces wPlaces k lPlaces
end Go.Proofs.Ytelgefgphhebnaa
end
