/-
  What the rows of this claim rest on: arrays of bytes, walks of the functions, plain mathematics.
-/
import Derived.Test.YtoncepgcfifgbaaZf6
import Derived.WalkKit
import Derived.WalkSpells
import Derived.WalkLawsBesides
import Derived.Lib.Hide
import Derived.Laws.Rows
import Derived.Laws.CopyOwn
import Derived.Deep.QuietTactic
import Derived.Deep.WholeRow
import Derived.Deep.Draws
import Derived.Deep.MidRow
import Derived.Deep.CutRange
import Derived.Deep.DeepCutAuto
import Derived.Deep.RegionHeld3
import Derived.BigQuiet
import Derived.BigRegion
import Derived.Test.YtoncepgcfifgbaaRows
import Derived.Great.BuildSlice
import Derived.Laws.Tables
import Derived.Laws.StructEq
import Derived.ScopeJumps
import Derived.Deep.CutBlock
import Derived.OwnWalk
import Derived.RangeFuncNested
import Derived.RangeFuncBound
import Derived.RangeFuncCalls
import Derived.RangeFuncLeaves
import Derived.Shelf.Abstract
import Derived.Shelf.RegionOpen
import Derived.OwnWalkIn
import Derived.TacticsInMore
import Derived.LoopNIn
import Derived.LoopIn
import Derived.Maps.OwnOps
import Derived.DeepKeys4
import Derived.Carry
import Derived.Test.YtoncepgcfifgbaaProg
section
namespace Go.Proofs.Ytoncepgcfifgbaa
attribute [local irreducible] deg invN
/-- below the divisor's degree nothing is divided -/
theorem resP_small {p : Nat} {a b : Nat → Nat} (hp : 0 < p) (ha : ∀ k, k < 64 → a k < p) (hlt : deg a < deg b) (k : Nat) (hk : k < 64) : resP p a b k = a k := by
 obtain ⟨a1, a2⟩ := zdb a
 obtain ⟨b1, b2⟩ := zdb b
 obtain ⟨m, hm⟩ : ∃ m : Nat, deg b = (m : Int) := ⟨(deg b).toNat, by omega⟩
 obtain ⟨N, hN⟩ : ∃ N : Nat, deg a + 1 = (N : Int) := ⟨(deg a + 1).toNat, by omega⟩
 have hz : ∀ k, N ≤ k → k < 128 → cut a k = 0 := by
  intro k h1 h2
  by_cases h : k < 64
  · rw [cut_in a h]; exact zero_above (by omega) h
  · exact zcz a (by omega)
 rw [resP_at hm]
 unfold resW
 rw [dS_stay (N := N) (fun j _ => cut_all hp ha j) hz _ (by omega) k (by omega), cut_in a hk]
end Go.Proofs.Ytoncepgcfifgbaa
end
section
namespace Go.Proofs.Ytoncepgcfifgbaa
open Go Go.RowKit
set_option linter.unusedVariables false
set_option linter.unusedSimpArgs false
attribute [local irreducible] deg invN quoP resP prd bzD bzU bzW sqP ngP mkP okA monB dvN rdR
theorem ng_small {p : Nat} {A B : Nat → Nat} (hp : 0 < p) (lB : ∀ k, k < 64 → B k < p) (h : deg B < deg A) : ∀ k, k < 64 → resP p (ngP p B) A k = ngP p B k := by
 have hd : deg (ngP p B) ≤ deg B := by
  obtain ⟨b1, b2⟩ := zdb B
  refine deg_le b1 (fun k hk hk2 => ?_)
  unfold ngP
  exact subP_zero rfl (zero_above hk hk2)
 exact resP_small hp (fun k _ => ngP_lt hp k) (by omega)
noncomputable def inV (p : Int) (D A B : Nat → Nat) : ((Nat → Nat) × (Nat → Nat)) × Int := if ckF p D [(A, B)] = 0 then ((A, ngP p.toNat B), 0) else ((fun _ => 0, fun _ => 0), 1)
theorem inV_1 {p : Int} {D A B : Nat → Nat} (h : ckF p D [(A, B)] = 1) : inV p D A B = ((fun _ => 0, fun _ => 0), 1) := if_neg (by omega)
theorem inV_0 {n : Nat} {D A B : Nat → Nat} (h : ckF (n : Int) D [(A, B)] = 0) : inV (n : Int) D A B = ((A, ngP n B), 0) := by
 unfold inV; rw [if_pos h, Int.toNat_natCast]
set_option maxRecDepth 100000 in
set_option maxHeartbeats 3200000 in
theorem impl_InverseForm_any (p : Int) (D A B : Nat → Nat) (hD : byte D) (hA : byte A) (hB : byte B) (w : World) :
 Calls Try.prog 75 #[.int .i64 p, .agg (zb 64 D), .agg (frC A B).toArray] w fun e w' => e = .returned (.tuple #[.agg (frC (inV p D A B).1.1 (inV p D A B).1.2).toArray, .int .i64 (inV p D A B).2]) ∧ Below w.heap.size w w' := by
 go_enter Try.func75, Try.ntmps75
 go_upto_region 1 with (fail)
 rw [← frC_zero]
 obtain ⟨W1, hwo⟩ : ∃ v : World, v = (((w.alloc (.cells (zb 64 (D)) 23)).alloc (.cells (frC A B).toArray 55)).alloc (.cells (frC (fun _ => 0) (fun _ => 0)).toArray 55)) := ⟨_, rfl⟩
 have B0 : Blk W1 (w.heap.size) 64 23 (D) := by subst hwo; have := (((Blk.new w 64 23 (D)).alloc (.cells (frC A B).toArray 55)).alloc (.cells (frC (fun _ => 0) (fun _ => 0)).toArray 55)); simpa using this
 have B1 : Row W1 (w.heap.size + 1) 55 (frC A B).toArray := by subst hwo; have := ((Row.new (w.alloc (.cells (zb 64 (D)) 23)) 55 (frC A B).toArray).alloc (.cells (frC (fun _ => 0) (fun _ => 0)).toArray 55)); simpa using this
 have B2 : Row W1 (w.heap.size + 1 + 1) 55 (frC (fun _ => 0) (fun _ => 0)).toArray := by subst hwo; have := (Row.new ((w.alloc (.cells (zb 64 (D)) 23)).alloc (.cells (frC A B).toArray 55)) 55 (frC (fun _ => 0) (fun _ => 0)).toArray); simpa using this
 have hb : Below w.heap.size w W1 := by subst hwo; exact ((((Below.refl _ _).alloc (Nat.le_refl _) _).alloc (by simp) _).alloc (by simp; omega) _)
 rw [← hwo]
 clear hwo
 rcases ckF_two p D [(A, B)] with hc | hc
 · obtain ⟨n, g, rfl, hpr, lD, hg2, hdg, hall⟩ := ckF_fm hc (A := A) (B := B) (by simp)
   have hf := hall (A, B) (by simp)
   dsimp only at hf
   clear hall
   have HV := Lib.hid (inV_0 hc)
   have HIN := Lib.hid (fun W => inverse_any n D A B W (by omega) (by omega) hf.2.1)
   go_upto_region 4 with (first | (refine zla (.tmp 4) B0 Try.underlying23 Try.size23 ?_) | (refine zlr rfl 55 (.tmp 5) rfl _ rfl 55 (frC A B).toArray (B1) _ Try.underlying55 rfl 128 Try.size55 (by simp [frC_len]) ?_) | (go_at_call 129; refine (checkForms_any (n : Int) D hD [(A, B)] (by simp [hA, hB]) (by simp) _ _ hps).mono ?_; rintro e W2 ⟨rfl, hW2⟩; replace B0 := B0.zw hW2; replace B1 := B1.zw hW2; replace B2 := B2.zw hW2; replace hb := (hb).trans (hW2.mono (hb).size); rw [hc]) | (refine wpList_build_frs rfl 61 _ [(A, B)] rfl 55 Try.underlying61 Try.elem55 (by simp) (by simp) rfl ?_; intro wa hps hba; replace B0 := B0.zw hba; replace B1 := B1.zw hba; replace B2 := B2.zw hba; replace hb := hb.trans (hba.mono hb.size)))
   clear hc lD hg2 hdg hf hpr
   have lt_B0 := B0.lt
   have lt_B1 := B1.lt
   have lt_B2 := B2.lt
   go_wp2_with (first | rw [← z64] | (refine zla (.tmp 4) B0 Try.underlying23 Try.size23 ?_) | (refine zlr rfl 55 (.tmp 5) rfl _ rfl 55 (frC A B).toArray (B1) _ Try.underlying55 rfl 128 Try.size55 (by simp [frC_len]) ?_) | (go_at_call 137; refine (HIN.out _).mono ?_; rintro e W3 ⟨rfl, hW3⟩; replace B0 := B0.zw hW3; replace B1 := B1.zw hW3; replace B2 := B2.zw hW3; replace hb := (hb).trans (hW3.mono (hb).size)) | (refine wpList_store_rowv rfl 55 (.tmp 6) (.tmp 22) rfl _ rfl (frC A (ngP n B)).toArray rfl 55 _ (B2) 128 Try.size55 (by simp [frC_len]) (by simp [frC_len]) (frC_all _ _) ?_; try simp only [Act.put]) | (refine zbo rfl 107 _ rfl (fdC (n : Int) D).toArray (by rw [Array.toList_map]; exact built_cv _ _) ?_))
   obtain ⟨W4, hwo, hzQ⟩ : ∃ v : World, v = (W3.setRow (w.heap.size + 1 + 1) (frC A (ngP n B)).toArray) ∧ Blk v (w.heap.size) 64 23 (D) ∧ Row v (w.heap.size + 1) 55 (frC A B).toArray ∧ Row v (w.heap.size + 1 + 1) 55 (frC A (ngP n B)).toArray ∧ Below w.heap.size w v := ⟨_, rfl, (B0.rowOther (by omega)), (B1.rowOther (by omega)), (B2.row (frC A (ngP n B)).toArray), (zr hb (by omega) _)⟩
   rw [← hwo]
   clear hwo B0 B1 B2 hb
   obtain ⟨B0, B1, B2, hb⟩ := hzQ
   try simp only [Act.put, pA, pB, pC]
   refine bodyPost_ret (results_rowt rfl _ _ _ _ _ rfl B2 _ Try.underlying55 rfl (by rw [Try.size55]; simp [frC_len])) rfl ⟨by first | (rw [HV.out]; rfl) | rw [HV.out], hb⟩
 · have HV := Lib.hid (inV_1 hc)
   go_upto_region 3 with (first | (refine zla (.tmp 4) B0 Try.underlying23 Try.size23 ?_) | (refine zlr rfl 55 (.tmp 5) rfl _ rfl 55 (frC A B).toArray (B1) _ Try.underlying55 rfl 128 Try.size55 (by simp [frC_len]) ?_) | (go_at_call 129; refine (checkForms_any p D hD [(A, B)] (by simp [hA, hB]) (by simp) _ _ hps).mono ?_; rintro e W2 ⟨rfl, hW2⟩; replace B0 := B0.zw hW2; replace B1 := B1.zw hW2; replace B2 := B2.zw hW2; replace hb := (hb).trans (hW2.mono (hb).size); rw [hc]) | (refine wpList_build_frs rfl 61 _ [(A, B)] rfl 55 Try.underlying61 Try.elem55 (by simp) (by simp) rfl ?_; intro wa hps hba; replace B0 := B0.zw hba; replace B1 := B1.zw hba; replace B2 := B2.zw hba; replace hb := hb.trans (hba.mono hb.size)))
   clear hc
   have lt_B0 := B0.lt
   have lt_B1 := B1.lt
   have lt_B2 := B2.lt
   go_wp2_with (first | rw [← z64] | rw [← frC_zero] | (refine wpList_store_rowv rfl 55 (.tmp 6) (.tmp 16) rfl _ rfl (frC (fun _ => 0) (fun _ => 0)).toArray rfl 55 _ (B2) 128 Try.size55 (by simp [frC_len]) (by simp [frC_len]) (frC_all _ _) ?_; try simp only [Act.put]; go_wp2_with fail))
   obtain ⟨W3, hwo, hzQ⟩ : ∃ v : World, v = (W2.setRow (w.heap.size + 1 + 1) (frC (fun _ => 0) (fun _ => 0)).toArray) ∧ Blk v (w.heap.size) 64 23 (D) ∧ Row v (w.heap.size + 1) 55 (frC A B).toArray ∧ Row v (w.heap.size + 1 + 1) 55 (frC (fun _ => 0) (fun _ => 0)).toArray ∧ Below w.heap.size w v := ⟨_, rfl, (B0.rowOther (by omega)), (B1.rowOther (by omega)), (B2.row (frC (fun _ => 0) (fun _ => 0)).toArray), (zr hb (by omega) _)⟩
   rw [← hwo]
   clear hwo B0 B1 B2 hb
   obtain ⟨B0, B1, B2, hb⟩ := hzQ
   try simp only [Act.put, pA, pB, pC]
   refine bodyPost_ret (results_rowt rfl _ _ _ _ _ rfl B2 _ Try.underlying55 rfl (by rw [Try.size55]; simp [frC_len])) rfl ⟨by first | (rw [HV.out]; rfl) | rw [HV.out], hb⟩
set_option maxRecDepth 100000 in
set_option maxHeartbeats 3200000 in
theorem spec_InverseForm_any (p : Int) (D A B : Nat → Nat) (hD : byte D) (hA : byte A) (hB : byte B) (w : World) :
 Calls Try.prog 74 #[.int .i64 p, .agg (zb 64 D), .agg (frC A B).toArray] w fun e w' => e = .returned (.tuple #[.agg (frC (inV p D A B).1.1 (inV p D A B).1.2).toArray, .int .i64 (inV p D A B).2]) ∧ Below w.heap.size w w' := by
 go_enter Try.func74, Try.ntmps74
 go_upto_region 1 with (fail)
 rw [← frC_zero]
 obtain ⟨W1, hwo⟩ : ∃ v : World, v = (((w.alloc (.cells (zb 64 (D)) 23)).alloc (.cells (frC A B).toArray 55)).alloc (.cells (frC (fun _ => 0) (fun _ => 0)).toArray 55)) := ⟨_, rfl⟩
 have B0 : Blk W1 (w.heap.size) 64 23 (D) := by subst hwo; have := (((Blk.new w 64 23 (D)).alloc (.cells (frC A B).toArray 55)).alloc (.cells (frC (fun _ => 0) (fun _ => 0)).toArray 55)); simpa using this
 have B1 : Row W1 (w.heap.size + 1) 55 (frC A B).toArray := by subst hwo; have := ((Row.new (w.alloc (.cells (zb 64 (D)) 23)) 55 (frC A B).toArray).alloc (.cells (frC (fun _ => 0) (fun _ => 0)).toArray 55)); simpa using this
 have B2 : Row W1 (w.heap.size + 1 + 1) 55 (frC (fun _ => 0) (fun _ => 0)).toArray := by subst hwo; have := (Row.new ((w.alloc (.cells (zb 64 (D)) 23)).alloc (.cells (frC A B).toArray 55)) 55 (frC (fun _ => 0) (fun _ => 0)).toArray); simpa using this
 have hb : Below w.heap.size w W1 := by subst hwo; exact ((((Below.refl _ _).alloc (Nat.le_refl _) _).alloc (by simp) _).alloc (by simp; omega) _)
 rw [← hwo]
 clear hwo
 rcases ckF_two p D [(A, B)] with hc | hc
 · obtain ⟨n, g, rfl, hpr, lD, hg2, hdg, hall⟩ := ckF_fm hc (A := A) (B := B) (by simp)
   have hf := hall (A, B) (by simp)
   dsimp only at hf
   clear hall
   have HV := Lib.hid (inV_0 hc)
   have HOP := Lib.hid (show ∀ W, Calls Try.prog 136 #[.int .i64 (n : Int), .agg (zb 64 B), .agg (zb 64 A)] W fun e w' => e = .returned (.agg (zb 64 (ngP n B))) ∧ Below W.heap.size W w' from fun W => by
    have := l07Opposite_any n B A W hpr hf.2.1 hf.1 (fmI_deg hf).1
    rw [zbc (ng_small (by omega) hf.2.1 hf.2.2.2.1)] at this; exact this)
   go_upto_region 4 with (first | (refine zla (.tmp 4) B0 Try.underlying23 Try.size23 ?_) | (refine zlr rfl 55 (.tmp 5) rfl _ rfl 55 (frC A B).toArray (B1) _ Try.underlying55 rfl 128 Try.size55 (by simp [frC_len]) ?_) | (go_at_call 127; refine (l07Code_no (n : Int) D hD [(A, B)] (by simp [hA, hB]) (by simp) _ _ hps).mono ?_; rintro e W2 ⟨rfl, hW2⟩; replace B0 := B0.zw hW2; replace B1 := B1.zw hW2; replace B2 := B2.zw hW2; replace hb := (hb).trans (hW2.mono (hb).size); rw [hc]) | (refine wpList_build_frs rfl 61 _ [(A, B)] rfl 55 Try.underlying61 Try.elem55 (by simp) (by simp) rfl ?_; intro wa hps hba; replace B0 := B0.zw hba; replace B1 := B1.zw hba; replace B2 := B2.zw hba; replace hb := hb.trans (hba.mono hb.size)))
   clear hc lD hg2 hdg hf hpr
   have lt_B0 : (w.heap.size) < W2.heap.size := B0.lt
   have lt_B1 : (w.heap.size + 1) < W2.heap.size := B1.lt
   have lt_B2 : (w.heap.size + 1 + 1) < W2.heap.size := B2.lt
   have hbase : w.heap.size ≤ W2.heap.size := hb.size
   refine zq Try.mixed (by kernel_rfl) (by kernel_rfl) (fun v => by (simp only [frL, Act.put, pA, pB, pC, Nat.reduceAdd, Nat.zero_add]; exact rfl))
    (fun L v W3 => Below w.heap.size w W3 ∧ Kx [w.heap.size + 1 + 1] W2 W3 ∧ (∃ g : Array Value, g.size = 128 ∧ Row W3 (w.heap.size + 1 + 1) 55 (g)) ∧ (L 9 = false → Row W3 (w.heap.size + 1 + 1) 55 ((frC (fun _ => 0) (fun _ => 0)).toArray)) ∧ (L 9 = true → Row W3 (w.heap.size + 1 + 1) 55 ((frC A (ngP n B)).toArray)) ∧ VF L v [some (.pointer (some ⟨w.heap.size + 1, 0, none⟩)), some (.agg (zb 64 (A))), some (.int .i64 (n : Int)), some (.pointer (some ⟨w.heap.size + 1, 64, none⟩)), some (.agg (zb 64 (B))), some (.pointer (some ⟨w.heap.size + 1, 0, none⟩)), some (.agg (zb 64 (A))), some (.agg (zb 64 (ngP n B))), some (.agg (frC A (ngP n B)).toArray), none, some (.int .i64 0)]) ?_ ?_ ?_
   · intro v hv0
     exact ⟨hb.drew, Kx.start _ _, ⟨_, by simp [frC_len], B2.drew⟩, (fun _ => B2.drew), (fun h => by cases h), VF.start⟩
   · refine (.cons rfl ?_ (.cons rfl ?_ (.cons rfl ?_ (.cons rfl ?_ (.cons rfl ?_ (.cons rfl ?_ (.cons rfl ?_ (.cons rfl ?_ (.cons rfl ?_ (.cons rfl ?_ (.cons rfl ?_ (.nil _))))))))))))
     all_goals intro L v W3 hd hn ⟨hB, hX, x2, q2, n2, V⟩ K hK
     · go_wp2_with fail
       exact hK _ (.pointer (some ⟨w.heap.size + 1, 0, none⟩)) _ (by simp only [Act.put, pA, pB, pC ]) ⟨hB, hX, x2, q2, n2, V.step 0 rfl⟩
     · have e0 := V.at (zdq hd 0 rfl) rfl
       refine wp_load_mid 23 _ rfl _ 0 e0 _ _ ((B1.kx hX (by simp <;> omega)).fra) Try.underlying23 rfl (by rw [zl]; exact Try.size23) ?_
       exact hK _ _ _ rfl ⟨hB, hX, x2, q2, n2, V.step 1 rfl⟩
     · go_wp2_with fail
       exact hK _ (.int .i64 (n : Int)) _ (by simp only [Act.put, pA, pB, pC ]) ⟨hB, hX, x2, q2, n2, V.step 2 rfl⟩
     · go_wp2_with fail
       exact hK _ (.pointer (some ⟨w.heap.size + 1, 64, none⟩)) _ (by simp only [Act.put, pA, pB, pC ]) ⟨hB, hX, x2, q2, n2, V.step 3 rfl⟩
     · have e3 := V.at (zdq hd 3 rfl) rfl
       refine wp_load_mid 23 _ rfl _ 64 e3 _ _ ((B1.kx hX (by simp <;> omega)).frb) Try.underlying23 rfl (by rw [zl]; exact Try.size23) ?_
       exact hK _ _ _ rfl ⟨hB, hX, x2, q2, n2, V.step 4 rfl⟩
     · go_wp2_with fail
       exact hK _ (.pointer (some ⟨w.heap.size + 1, 0, none⟩)) _ (by simp only [Act.put, pA, pB, pC ]) ⟨hB, hX, x2, q2, n2, V.step 5 rfl⟩
     · have e5 := V.at (zdq hd 5 rfl) rfl
       refine wp_load_mid 23 _ rfl _ 0 e5 _ _ ((B1.kx hX (by simp <;> omega)).fra) Try.underlying23 rfl (by rw [zl]; exact Try.size23) ?_
       exact hK _ _ _ rfl ⟨hB, hX, x2, q2, n2, V.step 6 rfl⟩
     · have e2 := V.at (zdq hd 2 rfl) rfl
       have e4 := V.at (zdq hd 4 rfl) rfl
       have e6 := V.at (zdq hd 6 rfl) rfl
       go_wp2_with (go_at_call 136; refine (HOP.out _).mono ?_; rintro e wy ⟨rfl, hy⟩)
       exact hK _ (.agg (zb 64 (ngP n B))) _ (by simp only [Act.put, pA, pB, pC, e2, e4, e6]) ⟨hB.trans (hy.mono hB.size), hX.below hy, (let ⟨g, hg, h⟩ := x2; ⟨g, hg, h.zw hy⟩), (fun h => (q2 h).below hy (q2 h).lt), (fun h => (n2 h).below hy (n2 h).lt), V.step 7 rfl⟩
     · have e1 := V.at (zdq hd 1 rfl) rfl
       have e7 := V.at (zdq hd 7 rfl) rfl
       refine wp_build_of 55 _ rfl (frC A (ngP n B)).toArray (by rw [Array.toList_map]; simp only [e1, e7, Act.eval]; exact built_fr _ _) ?_
       exact hK _ _ _ rfl ⟨hB, hX, x2, q2, n2, V.step 8 rfl⟩
     · have e8 := V.at (zdq hd 8 rfl) rfl
       obtain ⟨gz, hgz, hk⟩ := x2
       refine wp_store_rowv 55 _ _ rfl _ rfl ((frC A (ngP n B)).toArray) e8 55 gz hk 128 Try.size55 hgz (by simp [frC_len]) (frC_all _ _) ?_
       exact hK _ undef _ rfl ⟨zr hB (by omega) _, hX.row (by simp) _, ⟨_, by simp [frC_len], hk.row _⟩, (fun h => absurd h (by simp [setL])), (fun _ => hk.row _), V.skip 9 rfl⟩
     · go_wp2_with fail
       exact hK _ (.int .i64 0) _ (by simp only [Act.put, pA, pB, pC ]) ⟨hB, hX, x2, q2, n2, V.step 10 rfl⟩
   · intro L v W3 hL ⟨hB, hX, x2, q2, n2, V⟩
     have r2 := n2 (hL 9 (by decide))
     have e0 := V.at (hL 0 (by decide)) rfl
     have e1 := V.at (hL 1 (by decide)) rfl
     have e2 := V.at (hL 2 (by decide)) rfl
     have e3 := V.at (hL 3 (by decide)) rfl
     have e4 := V.at (hL 4 (by decide)) rfl
     have e5 := V.at (hL 5 (by decide)) rfl
     have e6 := V.at (hL 6 (by decide)) rfl
     have e7 := V.at (hL 7 (by decide)) rfl
     have e8 := V.at (hL 8 (by decide)) rfl
     have e10 := V.at (hL 10 (by decide)) rfl
     clear hL x2 q2 n2 V
     replace B0 := B0.kx hX (by simp <;> omega)
     replace B1 := B1.kx hX (by simp <;> omega)
     clear hX
     simp only [Exit.then, e0, e1, e2, e3, e4, e5, e6, e7, e8, e10]
     clear e0 e1 e2 e3 e4 e5 e6 e7 e8 e10
     replace B2 := r2
     clear r2
     replace hb := hB
     clear hB
     clear hbase lt_B0 lt_B1 lt_B2
     go_wp2_with fail
     refine bodyPost_ret (results_rowt rfl _ _ _ _ _ rfl B2 _ Try.underlying55 rfl (by rw [Try.size55]; simp [frC_len])) rfl ⟨by first | (rw [HV.out]; rfl) | rw [HV.out], hb⟩
 · have HV := Lib.hid (inV_1 hc)
   go_upto_region 3 with (first | (refine zla (.tmp 4) B0 Try.underlying23 Try.size23 ?_) | (refine zlr rfl 55 (.tmp 5) rfl _ rfl 55 (frC A B).toArray (B1) _ Try.underlying55 rfl 128 Try.size55 (by simp [frC_len]) ?_) | (go_at_call 127; refine (l07Code_no p D hD [(A, B)] (by simp [hA, hB]) (by simp) _ _ hps).mono ?_; rintro e W2 ⟨rfl, hW2⟩; replace B0 := B0.zw hW2; replace B1 := B1.zw hW2; replace B2 := B2.zw hW2; replace hb := (hb).trans (hW2.mono (hb).size); rw [hc]) | (refine wpList_build_frs rfl 61 _ [(A, B)] rfl 55 Try.underlying61 Try.elem55 (by simp) (by simp) rfl ?_; intro wa hps hba; replace B0 := B0.zw hba; replace B1 := B1.zw hba; replace B2 := B2.zw hba; replace hb := hb.trans (hba.mono hb.size)))
   clear hc
   have lt_B0 := B0.lt
   have lt_B1 := B1.lt
   have lt_B2 := B2.lt
   go_wp2_with (first | rw [← z64] | rw [← frC_zero] | (refine wpList_store_rowv rfl 55 (.tmp 6) (.tmp 16) rfl _ rfl (frC (fun _ => 0) (fun _ => 0)).toArray rfl 55 _ (B2) 128 Try.size55 (by simp [frC_len]) (by simp [frC_len]) (frC_all _ _) ?_; try simp only [Act.put]; go_wp2_with fail))
   obtain ⟨W3, hwo, hzQ⟩ : ∃ v : World, v = (W2.setRow (w.heap.size + 1 + 1) (frC (fun _ => 0) (fun _ => 0)).toArray) ∧ Blk v (w.heap.size) 64 23 (D) ∧ Row v (w.heap.size + 1) 55 (frC A B).toArray ∧ Row v (w.heap.size + 1 + 1) 55 (frC (fun _ => 0) (fun _ => 0)).toArray ∧ Below w.heap.size w v := ⟨_, rfl, (B0.rowOther (by omega)), (B1.rowOther (by omega)), (B2.row (frC (fun _ => 0) (fun _ => 0)).toArray), (zr hb (by omega) _)⟩
   rw [← hwo]
   clear hwo B0 B1 B2 hb
   obtain ⟨B0, B1, B2, hb⟩ := hzQ
   try simp only [Act.put, pA, pB, pC]
   refine bodyPost_ret (results_rowt rfl _ _ _ _ _ rfl B2 _ Try.underlying55 rfl (by rw [Try.size55]; simp [frC_len])) rfl ⟨by first | (rw [HV.out]; rfl) | rw [HV.out], hb⟩
set_option maxRecDepth 100000 in
set_option maxHeartbeats 1600000 in
theorem FnExactInverseForm_walk (p : Int) (D : Nat → Nat) (A B : Nat → Nat) (hD : byte D) (hA : byte A) (hB : byte B) (w : World) :
 Calls Try.prog 21 #[.int .i64 p, .agg (zb 64 D), .agg (frC A B).toArray] w fun e w' => e = .returned (.bool true) ∧ Below w.heap.size w w' := by
 have HPD := Lib.hid (fun W => toPoly_any D hD W)
 have HFA := Lib.hid (fun W => toForm_any A B hA hB W)
 have HS := Lib.hid (fun W => spec_InverseForm_any p D A B hD hA hB W)
 have HI := Lib.hid (fun W => impl_InverseForm_any p D A B hD hA hB W)
 obtain ⟨⟨⟨Fa, Fb⟩, j⟩, hV⟩ : ∃ V, V = (inV p D A B) := ⟨_, rfl⟩
 rw [← hV] at HS HI
 dsimp only at HS HI
 have hne1 : ((j) != (j)) = false := by simp
 clear hV
 have HE := Lib.hid (fun W => eqForm_same Fa Fb W)
 go_enter Try.func21, Try.ntmps21
 go_upto_region 1 with (fail)
 obtain ⟨W1, hwo⟩ : ∃ v : World, v = ((w.alloc (.cells (zb 64 (D)) 22)).alloc (.cells (frC A B).toArray 52)) := ⟨_, rfl⟩
 have B0 : Blk W1 (w.heap.size) 64 22 (D) := by subst hwo; have := ((Blk.new w 64 22 (D)).alloc (.cells (frC A B).toArray 52)); simpa using this
 have B1 : Row W1 (w.heap.size + 1) 52 (frC A B).toArray := by subst hwo; have := (Row.new (w.alloc (.cells (zb 64 (D)) 22)) 52 (frC A B).toArray); simpa using this
 have hb : Below w.heap.size w W1 := by subst hwo; exact (((Below.refl _ _).alloc (Nat.le_refl _) _).alloc (by simp) _)
 rw [← hwo]
 clear hwo
 have lt_B0 : (w.heap.size) < W1.heap.size := B0.lt
 have lt_B1 : (w.heap.size + 1) < W1.heap.size := B1.lt
 refine zq Try.mixed (by kernel_rfl) (by kernel_rfl) (fun v => by (simp only [frL, Act.put, pA, pB, pC, Nat.reduceAdd, Nat.zero_add]; exact rfl))
  (fun L v W2 => Below W1.heap.size W1 W2 ∧ (L 9 = true → AR (v 9) W2 W1.heap.size 128 55) ∧ (L 10 = true → PR (v 9) W2 W1.heap.size 55 (frC Fa Fb).toArray) ∧ VF L v [some (.int .i64 p), some (.agg (zb 64 (D))), some (.agg (zb 64 (D))), some (.agg (frC A B).toArray), some (.agg (frC A B).toArray), some (.tuple #[(.agg (frC Fa Fb).toArray), (.int .i64 j)]), some (.tuple #[(.agg (frC Fa Fb).toArray), (.int .i64 j)]), some (.agg (frC Fa Fb).toArray), some (.int .i64 j), none, none, some (.int .i64 j)]) ?_ ?_ ?_
 · intro v hv0
   exact ⟨(Below.refl _ W1).drew, (fun h => by cases h), (fun h => by cases h), VF.start⟩
 · refine (.cons rfl ?_ (.cons rfl ?_ (.cons rfl ?_ (.cons rfl ?_ (.cons rfl ?_ (.cons rfl ?_ (.cons rfl ?_ (.cons rfl ?_ (.cons rfl ?_ (.cons rfl ?_ (.cons rfl ?_ (.cons rfl ?_ (.nil _)))))))))))))
   all_goals intro L v W2 hd hn ⟨hY, h9, h10, V⟩ K hK
   · go_wp2_with fail
     exact hK _ (.int .i64 p) _ (by simp only [Act.put, pA, pB, pC ]) ⟨hY, h9, h10, V.step 0 rfl⟩
   · refine zlc (B0.zw hY) Try.underlying22 Try.size22 ?_
     exact hK _ _ _ rfl ⟨hY, h9, h10, V.step 1 rfl⟩
   · have e1 := V.at (zdq hd 1 rfl) rfl
     go_wp2_with (go_at_call 26; refine (HPD.out _).mono ?_; rintro e wy ⟨rfl, hy⟩)
     exact hK _ (.agg (zb 64 (D))) _ (by simp only [Act.put, pA, pB, pC, e1]) ⟨hY.trans (hy.mono hY.size), (fun h => (h9 h).belowR hy), (fun h => (h10 h).belowR hy), V.step 2 rfl⟩
   · refine wp_load_rowv 52 _ rfl _ rfl 52 _ (B1.zw hY) _ Try.underlying52 rfl 128 Try.size52 (by simp [frC_len]) ?_
     exact hK _ _ _ rfl ⟨hY, h9, h10, V.step 3 rfl⟩
   · have e3 := V.at (zdq hd 3 rfl) rfl
     go_wp2_with (go_at_call 60; refine (HFA.out _).mono ?_; rintro e wy ⟨rfl, hy⟩)
     exact hK _ (.agg (frC A B).toArray) _ (by simp only [Act.put, pA, pB, pC, e3]) ⟨hY.trans (hy.mono hY.size), (fun h => (h9 h).belowR hy), (fun h => (h10 h).belowR hy), V.step 4 rfl⟩
   · have e0 := V.at (zdq hd 0 rfl) rfl
     have e2 := V.at (zdq hd 2 rfl) rfl
     have e4 := V.at (zdq hd 4 rfl) rfl
     go_wp2_with (go_at_call 74; refine (HS.out _).mono ?_; rintro e wy ⟨rfl, hy⟩)
     exact hK _ (.tuple #[(.agg (frC Fa Fb).toArray), (.int .i64 j)]) _ (by simp only [Act.put, pA, pB, pC, e0, e2, e4]) ⟨hY.trans (hy.mono hY.size), (fun h => (h9 h).belowR hy), (fun h => (h10 h).belowR hy), V.step 5 rfl⟩
   · have e5 := V.at (zdq hd 5 rfl) rfl
     go_wp2_with fail
     exact hK _ (.tuple #[(.agg (frC Fa Fb).toArray), (.int .i64 j)]) _ (by simp only [Act.put, pA, pB, pC, e5]) ⟨hY, h9, h10, V.step 6 rfl⟩
   · have e6 := V.at (zdq hd 6 rfl) rfl
     go_wp2_with fail
     exact hK _ (.agg (frC Fa Fb).toArray) _ (by simp only [Act.put, pA, pB, pC, e6]) ⟨hY, h9, h10, V.step 7 rfl⟩
   · have e6 := V.at (zdq hd 6 rfl) rfl
     go_wp2_with fail
     exact hK _ (.int .i64 j) _ (by simp only [Act.put, pA, pB, pC, e6]) ⟨hY, h9, h10, V.step 8 rfl⟩
   · go_wp2_with fail
     rw [← frC_zero]
     exact hK _ (.pointer (some ⟨W2.heap.size, 0, none⟩)) _ (by simp only [Act.put, pA, pB, pC ]) ⟨hY.alloc hY.size _, (fun _ => (PR.newR W2 55 _ hY.size).ar (by simp [frC_len])), (fun h => absurd rfl (hn 10 _ rfl h ⟨9, .data⟩ (by simp) rfl)), V.skip 9 rfl⟩
   · have e7 := V.at (zdq hd 7 rfl) rfl
     obtain ⟨gz, b, ea, hN, hgz, hk⟩ := (h9 (zdq hd 9 rfl)).outR
     refine wp_store_rowv 55 _ _ rfl b ea (frC Fa Fb).toArray e7 55 gz hk 128 Try.size55 hgz (by simp [frC_len]) (frC_all _ _) ?_
     exact hK _ undef _ rfl ⟨zr hY hN _, (fun h => (h9 h).rowR hk _ (by simp [frC_len])), (fun _ => by rw [show updV v 10 undef 9 = v 9 from rfl, ea]; exact PR.rowR hk hN _), V.skip 10 rfl⟩
   · have e8 := V.at (zdq hd 8 rfl) rfl
     go_wp2_with fail
     exact hK _ (.int .i64 j) _ (by simp only [Act.put, pA, pB, pC, e8]) ⟨hY, h9, h10, V.step 11 rfl⟩
 · intro L v W2 hL ⟨hY, h9, h10, V⟩
   obtain ⟨k1_9, e9, hNk1_9, hk1_9⟩ := (h10 (hL 10 (by decide))).outR
   have e0 := V.at (hL 0 (by decide)) rfl
   have e1 := V.at (hL 1 (by decide)) rfl
   have e2 := V.at (hL 2 (by decide)) rfl
   have e3 := V.at (hL 3 (by decide)) rfl
   have e4 := V.at (hL 4 (by decide)) rfl
   have e5 := V.at (hL 5 (by decide)) rfl
   have e6 := V.at (hL 6 (by decide)) rfl
   have e7 := V.at (hL 7 (by decide)) rfl
   have e8 := V.at (hL 8 (by decide)) rfl
   have e11 := V.at (hL 11 (by decide)) rfl
   clear hL h9 h10 V
   replace B0 := B0.zw hY
   replace B1 := B1.zw hY
   replace hb := hb.trans (hY.mono hb.size)
   clear hY
   simp only [Exit.then, e9, e0, e1, e2, e3, e4, e5, e6, e7, e8, e11]
   clear e9 e0 e1 e2 e3 e4 e5 e6 e7 e8 e11
   have B2 := hk1_9
   clear hk1_9
   have zk1_9_0 : w.heap.size < k1_9 := by omega
   have zk1_9_1 : w.heap.size + 1 < k1_9 := by omega
   clear lt_B0 lt_B1
   go_upto_region 2 with (fail)
   have lt_B0 : (w.heap.size) < W2.heap.size := B0.lt
   have lt_B1 : (w.heap.size + 1) < W2.heap.size := B1.lt
   have lt_B2 : (k1_9) < W2.heap.size := B2.lt
   refine zq Try.mixed (by kernel_rfl) (by kernel_rfl) (fun v => by (simp only [frL, Act.put, pA, pB, pC, Nat.reduceAdd, Nat.zero_add]; exact rfl))
    (fun L v W3 => Below W2.heap.size W2 W3 ∧ (L 9 = true → AR (v 9) W3 W2.heap.size 128 55) ∧ (L 10 = true → PR (v 9) W3 W2.heap.size 55 (frC Fa Fb).toArray) ∧ VF L v [some (.int .i64 p), some (.agg (zb 64 (D))), some (.agg (zb 64 (D))), some (.agg (frC A B).toArray), some (.agg (frC A B).toArray), some (.tuple #[(.agg (frC Fa Fb).toArray), (.int .i64 j)]), some (.tuple #[(.agg (frC Fa Fb).toArray), (.int .i64 j)]), some (.agg (frC Fa Fb).toArray), some (.int .i64 j), none, none, some (.int .i64 j)]) ?_ ?_ ?_
   · intro v hv0
     exact ⟨(Below.refl _ W2).drew, (fun h => by cases h), (fun h => by cases h), VF.start⟩
   · refine (.cons rfl ?_ (.cons rfl ?_ (.cons rfl ?_ (.cons rfl ?_ (.cons rfl ?_ (.cons rfl ?_ (.cons rfl ?_ (.cons rfl ?_ (.cons rfl ?_ (.cons rfl ?_ (.cons rfl ?_ (.cons rfl ?_ (.nil _)))))))))))))
     all_goals intro L v W3 hd hn ⟨hY, h9, h10, V⟩ K hK
     · go_wp2_with fail
       exact hK _ (.int .i64 p) _ (by simp only [Act.put, pA, pB, pC ]) ⟨hY, h9, h10, V.step 0 rfl⟩
     · refine zlc (B0.zw hY) Try.underlying22 Try.size22 ?_
       exact hK _ _ _ rfl ⟨hY, h9, h10, V.step 1 rfl⟩
     · have e1 := V.at (zdq hd 1 rfl) rfl
       go_wp2_with (go_at_call 26; refine (HPD.out _).mono ?_; rintro e wy ⟨rfl, hy⟩)
       exact hK _ (.agg (zb 64 (D))) _ (by simp only [Act.put, pA, pB, pC, e1]) ⟨hY.trans (hy.mono hY.size), (fun h => (h9 h).belowR hy), (fun h => (h10 h).belowR hy), V.step 2 rfl⟩
     · refine wp_load_rowv 52 _ rfl _ rfl 52 _ (B1.zw hY) _ Try.underlying52 rfl 128 Try.size52 (by simp [frC_len]) ?_
       exact hK _ _ _ rfl ⟨hY, h9, h10, V.step 3 rfl⟩
     · have e3 := V.at (zdq hd 3 rfl) rfl
       go_wp2_with (go_at_call 60; refine (HFA.out _).mono ?_; rintro e wy ⟨rfl, hy⟩)
       exact hK _ (.agg (frC A B).toArray) _ (by simp only [Act.put, pA, pB, pC, e3]) ⟨hY.trans (hy.mono hY.size), (fun h => (h9 h).belowR hy), (fun h => (h10 h).belowR hy), V.step 4 rfl⟩
     · have e0 := V.at (zdq hd 0 rfl) rfl
       have e2 := V.at (zdq hd 2 rfl) rfl
       have e4 := V.at (zdq hd 4 rfl) rfl
       go_wp2_with (go_at_call 75; refine (HI.out _).mono ?_; rintro e wy ⟨rfl, hy⟩)
       exact hK _ (.tuple #[(.agg (frC Fa Fb).toArray), (.int .i64 j)]) _ (by simp only [Act.put, pA, pB, pC, e0, e2, e4]) ⟨hY.trans (hy.mono hY.size), (fun h => (h9 h).belowR hy), (fun h => (h10 h).belowR hy), V.step 5 rfl⟩
     · have e5 := V.at (zdq hd 5 rfl) rfl
       go_wp2_with fail
       exact hK _ (.tuple #[(.agg (frC Fa Fb).toArray), (.int .i64 j)]) _ (by simp only [Act.put, pA, pB, pC, e5]) ⟨hY, h9, h10, V.step 6 rfl⟩
     · have e6 := V.at (zdq hd 6 rfl) rfl
       go_wp2_with fail
       exact hK _ (.agg (frC Fa Fb).toArray) _ (by simp only [Act.put, pA, pB, pC, e6]) ⟨hY, h9, h10, V.step 7 rfl⟩
     · have e6 := V.at (zdq hd 6 rfl) rfl
       go_wp2_with fail
       exact hK _ (.int .i64 j) _ (by simp only [Act.put, pA, pB, pC, e6]) ⟨hY, h9, h10, V.step 8 rfl⟩
     · go_wp2_with fail
       rw [← frC_zero]
       exact hK _ (.pointer (some ⟨W3.heap.size, 0, none⟩)) _ (by simp only [Act.put, pA, pB, pC ]) ⟨hY.alloc hY.size _, (fun _ => (PR.newR W3 55 _ hY.size).ar (by simp [frC_len])), (fun h => absurd rfl (hn 10 _ rfl h ⟨9, .data⟩ (by simp) rfl)), V.skip 9 rfl⟩
     · have e7 := V.at (zdq hd 7 rfl) rfl
       obtain ⟨gz, b, ea, hN, hgz, hk⟩ := (h9 (zdq hd 9 rfl)).outR
       refine wp_store_rowv 55 _ _ rfl b ea (frC Fa Fb).toArray e7 55 gz hk 128 Try.size55 hgz (by simp [frC_len]) (frC_all _ _) ?_
       exact hK _ undef _ rfl ⟨zr hY hN _, (fun h => (h9 h).rowR hk _ (by simp [frC_len])), (fun _ => by rw [show updV v 10 undef 9 = v 9 from rfl, ea]; exact PR.rowR hk hN _), V.skip 10 rfl⟩
     · have e8 := V.at (zdq hd 8 rfl) rfl
       go_wp2_with fail
       exact hK _ (.int .i64 j) _ (by simp only [Act.put, pA, pB, pC, e8]) ⟨hY, h9, h10, V.step 11 rfl⟩
   · intro L v W3 hL ⟨hY, h9, h10, V⟩
     obtain ⟨k2_9, e9, hNk2_9, hk2_9⟩ := (h10 (hL 10 (by decide))).outR
     have e0 := V.at (hL 0 (by decide)) rfl
     have e1 := V.at (hL 1 (by decide)) rfl
     have e2 := V.at (hL 2 (by decide)) rfl
     have e3 := V.at (hL 3 (by decide)) rfl
     have e4 := V.at (hL 4 (by decide)) rfl
     have e5 := V.at (hL 5 (by decide)) rfl
     have e6 := V.at (hL 6 (by decide)) rfl
     have e7 := V.at (hL 7 (by decide)) rfl
     have e8 := V.at (hL 8 (by decide)) rfl
     have e11 := V.at (hL 11 (by decide)) rfl
     clear hL h9 h10 V
     replace B0 := B0.zw hY
     replace B1 := B1.zw hY
     replace B2 := B2.zw hY
     replace hb := hb.trans (hY.mono hb.size)
     clear hY
     simp only [Exit.then, e9, e0, e1, e2, e3, e4, e5, e6, e7, e8, e11]
     clear e9 e0 e1 e2 e3 e4 e5 e6 e7 e8 e11
     have B3 := hk2_9
     clear hk2_9
     have zk2_9_0 : w.heap.size < k2_9 := by omega
     have zk2_9_1 : w.heap.size + 1 < k2_9 := by omega
     have zk2_9_2 : k1_9 < k2_9 := by omega
     clear lt_B0 lt_B1 lt_B2
     go_upto_region 3 with (fail)
     go_wp2_with (first | (refine zlr rfl 55 (.tmp 9) rfl _ rfl 55 (frC Fa Fb).toArray (B3) _ Try.underlying55 rfl 128 Try.size55 (by simp [frC_len]) ?_) | (refine zlr rfl 55 (.tmp 7) rfl _ rfl 55 (frC Fa Fb).toArray (B2) _ Try.underlying55 rfl 128 Try.size55 (by simp [frC_len]) ?_) | (go_at_call 64; refine (HE.out _).mono ?_; rintro e W4 ⟨rfl, hW4⟩; replace B0 := B0.zw hW4; replace B1 := B1.zw hW4; replace B2 := B2.zw hW4; replace B3 := B3.zw hW4; replace hb := (hb).trans (hW4.mono (hb).size)))
     go_ret
     exact ⟨rfl, hb⟩
end Go.Proofs.Ytoncepgcfifgbaa
end
