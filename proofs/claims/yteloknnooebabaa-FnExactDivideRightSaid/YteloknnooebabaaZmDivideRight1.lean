/-
  What the rows of this claim rest on: arrays of bytes, walks of the functions, plain mathematics.
-/
import Derived.Test.YteloknnooebabaaZm9
import Derived.WalkKit
import Derived.WalkSpells
import Derived.WalkLawsBesides
import Derived.Lib.Hide
import Derived.Laws.Rows
import Derived.Laws.CopyOwn
import Derived.Deep.QuietTactic
import Derived.Deep.WholeRow
import Derived.Deep.Draws
import Derived.Deep.MidRow
import Derived.Deep.CutRange
import Derived.Deep.DeepCutAuto
import Derived.Deep.RegionHeld3
import Derived.BigQuiet
import Derived.BigRegion
import Derived.Test.YteloknnooebabaaRows
import Derived.Great.BuildSlice
import Derived.Laws.Tables
import Derived.Laws.StructEq
import Derived.ScopeJumps
import Derived.OwnWalk
import Derived.RangeFuncNested
import Derived.RangeFuncBound
import Derived.RangeFuncCalls
import Derived.RangeFuncLeaves
import Derived.Shelf.Abstract
import Derived.Shelf.RegionOpen
import Derived.OwnWalkIn
import Derived.TacticsInMore
import Derived.LoopNIn
import Derived.LoopIn
import Derived.Deep.CutBlock
import Derived.Maps.OwnOps
import Derived.DeepKeys4
import Derived.Carry
import Derived.Test.YteloknnooebabaaProg
import Derived.Handy
import Derived.Laws.MakeOwn
set_option maxRecDepth 100000
set_option maxHeartbeats 9000000
set_option linter.unusedVariables false
set_option linter.unusedSimpArgs false
namespace Go.Proofs.Yteloknnooebabaa
open Go Go.RowKit
attribute [local irreducible] deg addK okA flV skA skD
noncomputable def drV (p : Int) (m : Nat → Nat) (F G : Nat → Nat → Nat) : ((Nat → Nat → Nat) × (Nat → Nat → Nat)) × Int := if ckS p m [F, G] = 0 then (if skD G < 0 then ((fun _ _ => 0, fun _ _ => 0), 5) else (dq p.toNat m (deg m).toNat F G, 0)) else ((fun _ _ => 0, fun _ _ => 0), 1)
theorem drV_0 {n d : Nat} {m : Nat → Nat} {F G : Nat → Nat → Nat} (h : ckS (n : Int) m [F, G] = 0) (hd : deg m = (d : Int)) (h2 : ¬ skD G < 0) : drV (n : Int) m F G = (dq n m d F G, 0) := by unfold drV; rw [if_pos h, if_neg h2, hd]; rfl
theorem drV_5 {p : Int} {m : Nat → Nat} {F G : Nat → Nat → Nat} (h : ckS p m [F, G] = 0) (h2 : skD G < 0) : drV p m F G = ((fun _ _ => 0, fun _ _ => 0), 5) := by unfold drV; rw [if_pos h, if_pos h2]
theorem drV_1 {p : Int} {m : Nat → Nat} {F G : Nat → Nat → Nat} (h : ckS p m [F, G] = 1) : drV p m F G = ((fun _ _ => 0, fun _ _ => 0), 1) := if_neg (by omega)
attribute [irreducible] drV
theorem spec_DivideRight_any (p : Int) (m : Nat → Nat) (F G : Nat → Nat → Nat) (hm : byte m) (hF : ∀ i, byte (F i)) (hG : ∀ i, byte (G i)) (w : World) :
 Calls Try.prog 34 #[.int .i64 p, .agg (zb 64 m), .agg (zb 512 (fl 64 F)), .agg (zb 512 (fl 64 G))] w fun e w' => e = .returned (.tuple #[.agg (zb 512 (fl 64 (drV p m F G).1.1)), .agg (zb 512 (fl 64 (drV p m F G).1.2)), .int .i64 (drV p m F G).2]) ∧ Below w.heap.size w w' := by
 go_enter Try.func34, Try.ntmps34
 go_upto_region 1 with (fail)
 rw [← zero512]
 obtain ⟨W1, hwo⟩ : ∃ v : World, v = (((((w.alloc (.cells (zb 64 (m)) 24)).alloc (.cells (zb 512 (fl 64 F)) 26)).alloc (.cells (zb 512 (fl 64 G)) 26)).alloc (.cells (zb 512 (fl 64 (fun _ _ => 0))) 26)).alloc (.cells (zb 512 (fl 64 (fun _ _ => 0))) 26)) := ⟨_, rfl⟩
 have B0 : Blk W1 (w.heap.size) 64 24 (m) := by subst hwo; have := (((((Blk.new w 64 24 (m)).alloc (.cells (zb 512 (fl 64 F)) 26)).alloc (.cells (zb 512 (fl 64 G)) 26)).alloc (.cells (zb 512 (fl 64 (fun _ _ => 0))) 26)).alloc (.cells (zb 512 (fl 64 (fun _ _ => 0))) 26)); simpa using this
 have B1 : Blk W1 (w.heap.size + 1) 512 26 (fl 64 F) := by subst hwo; have := ((((Blk.new (w.alloc (.cells (zb 64 (m)) 24)) 512 26 (fl 64 F)).alloc (.cells (zb 512 (fl 64 G)) 26)).alloc (.cells (zb 512 (fl 64 (fun _ _ => 0))) 26)).alloc (.cells (zb 512 (fl 64 (fun _ _ => 0))) 26)); simpa using this
 have B2 : Blk W1 (w.heap.size + 1 + 1) 512 26 (fl 64 G) := by subst hwo; have := (((Blk.new ((w.alloc (.cells (zb 64 (m)) 24)).alloc (.cells (zb 512 (fl 64 F)) 26)) 512 26 (fl 64 G)).alloc (.cells (zb 512 (fl 64 (fun _ _ => 0))) 26)).alloc (.cells (zb 512 (fl 64 (fun _ _ => 0))) 26)); simpa using this
 have B3 : Blk W1 (w.heap.size + 1 + 1 + 1) 512 26 (fl 64 (fun _ _ => 0)) := by subst hwo; have := ((Blk.new (((w.alloc (.cells (zb 64 (m)) 24)).alloc (.cells (zb 512 (fl 64 F)) 26)).alloc (.cells (zb 512 (fl 64 G)) 26)) 512 26 (fl 64 (fun _ _ => 0))).alloc (.cells (zb 512 (fl 64 (fun _ _ => 0))) 26)); simpa using this
 have B4 : Blk W1 (w.heap.size + 1 + 1 + 1 + 1) 512 26 (fl 64 (fun _ _ => 0)) := by subst hwo; have := (Blk.new ((((w.alloc (.cells (zb 64 (m)) 24)).alloc (.cells (zb 512 (fl 64 F)) 26)).alloc (.cells (zb 512 (fl 64 G)) 26)).alloc (.cells (zb 512 (fl 64 (fun _ _ => 0))) 26)) 512 26 (fl 64 (fun _ _ => 0))); simpa using this
 have hb : Below w.heap.size w W1 := by subst hwo; exact ((((((Below.refl _ _).alloc (Nat.le_refl _) _).alloc (by simp) _).alloc (by simp; omega) _).alloc (by simp; omega) _).alloc (by simp; omega) _)
 rw [← hwo]
 clear hwo
 rcases ckS_two p m [F, G] with hc | hc
 · by_cases hz : skD G < 0
   · skip
     have HV := Lib.hid (drV_5 hc hz)
     have HC := Lib.hid (cdV_5 hc hz)
     go_upto_region 3 with (first | (refine zla (.tmp 5) B0 Try.underlying24 Try.size24 ?_) | (refine zla (.tmp 6) B1 Try.underlying26 Try.size26 ?_) | (refine zla (.tmp 7) B2 Try.underlying26 Try.size26 ?_) | (go_at_call 101; refine (l03Divided_any p m F G hm hF hG _).mono ?_; rintro e W2 ⟨rfl, hW2⟩; replace B0 := B0.zw hW2; replace B1 := B1.zw hW2; replace B2 := B2.zw hW2; replace B3 := B3.zw hW2; replace B4 := B4.zw hW2; replace hb := (hb).trans (hW2.mono (hb).size); rw [HC.out]))
     have lt_B0 := B0.lt
     have lt_B1 := B1.lt
     have lt_B2 := B2.lt
     have lt_B3 := B3.lt
     have lt_B4 := B4.lt
     go_wp2_with (first | rw [← z64] | rw [← zero512] | (refine zsr (.tmp 8) (.tmp 21) (fl 64 (fun _ _ => 0)) B3 Try.size26 ?_; try simp only [Act.put]) | (refine wpList_store_blk rfl 26 (.tmp 9) (.tmp 22) rfl _ 512 (fl 64 (fun _ _ => 0)) rfl rfl 26 _ ((B4.rowOther (by omega))) Try.size26 ?_; try simp only [Act.put]; go_wp2_with fail))
     obtain ⟨W3, hwo, hzQ⟩ : ∃ v : World, v = ((W2.setRow (w.heap.size + 1 + 1 + 1) (zb 512 (fl 64 (fun _ _ => 0)))).setRow (w.heap.size + 1 + 1 + 1 + 1) (zb 512 (fl 64 (fun _ _ => 0)))) ∧ Blk v (w.heap.size) 64 24 (m) ∧ Blk v (w.heap.size + 1) 512 26 (fl 64 F) ∧ Blk v (w.heap.size + 1 + 1) 512 26 (fl 64 G) ∧ Blk v (w.heap.size + 1 + 1 + 1) 512 26 (fl 64 (fun _ _ => 0)) ∧ Blk v (w.heap.size + 1 + 1 + 1 + 1) 512 26 (fl 64 (fun _ _ => 0)) ∧ Below w.heap.size w v := ⟨_, rfl, ((B0.rowOther (by omega)).rowOther (by omega)), ((B1.rowOther (by omega)).rowOther (by omega)), ((B2.rowOther (by omega)).rowOther (by omega)), ((B3.row (fl 64 (fun _ _ => 0))).rowOther (by omega)), ((B4.rowOther (by omega)).row (fl 64 (fun _ _ => 0))), (zr (zr hb (by omega) _) (by omega) _)⟩
     rw [← hwo]
     clear hwo B0 B1 B2 B3 B4 hb
     obtain ⟨B0, B1, B2, B3, B4, hb⟩ := hzQ
     try simp only [Act.put, pA, pB, pC]
     refine bodyPost_ret (results_any2t rfl _ _ _ 512 _ _ _ 512 _ _ rfl B3 _ Try.underlying26 rfl Try.size26 rfl B4 _ Try.underlying26 rfl Try.size26) rfl ⟨by first | (rw [HV.out]; rfl) | rw [HV.out], hb⟩
   obtain ⟨n, rfl, hpr, lm, ⟨d, hmon, hd1, hd4⟩, hl⟩ := ckS_fld hc
   have hd := hmon.1
   have lF : ∀ i, i < 8 → ∀ j, j < 64 → F i j < n := fun i hi => (hl F (by simp) i hi).1
   have rF : rsk n m F := ckS_rsk hl (by simp)
   have rG : rsk n m G := ckS_rsk hl (by simp)
   have hirr := ckS_irr hc hmon
   obtain ⟨b1, b2⟩ := zsd G
   have HV := Lib.hid (drV_0 hc hd hz)
   have HC := Lib.hid (cdV_0 hc hz)
   have HDV := Lib.hid (fun W => l03Right_any n m F G W hpr lm d hmon hirr (by omega) rF rG (by omega))
   clear hc hl lF rF rG hirr hmon hz b1 b2 lm hpr hd
   go_upto_region 4 with (first | (refine zla (.tmp 5) B0 Try.underlying24 Try.size24 ?_) | (refine zla (.tmp 6) B1 Try.underlying26 Try.size26 ?_) | (refine zla (.tmp 7) B2 Try.underlying26 Try.size26 ?_) | (go_at_call 101; refine (l03Divided_any (n : Int) m F G hm hF hG _).mono ?_; rintro e W2 ⟨rfl, hW2⟩; replace B0 := B0.zw hW2; replace B1 := B1.zw hW2; replace B2 := B2.zw hW2; replace B3 := B3.zw hW2; replace B4 := B4.zw hW2; replace hb := (hb).trans (hW2.mono (hb).size); rw [HC.out]))
   have lt_B0 := B0.lt
   have lt_B1 := B1.lt
   have lt_B2 := B2.lt
   have lt_B3 := B3.lt
   have lt_B4 := B4.lt
   go_upto_region 5 with (first | rw [← z64] | rw [← zero512] | (refine zla (.tmp 5) B0 Try.underlying24 Try.size24 ?_) | (refine zla (.tmp 6) B1 Try.underlying26 Try.size26 ?_) | (refine zla (.tmp 7) B2 Try.underlying26 Try.size26 ?_) | (go_at_call 102; refine (HDV.out _).mono ?_; rintro e W3 ⟨rfl, hW3⟩; replace B0 := B0.zw hW3; replace B1 := B1.zw hW3; replace B2 := B2.zw hW3; replace B3 := B3.zw hW3; replace B4 := B4.zw hW3; replace hb := (hb).trans (hW3.mono (hb).size)) | (refine wpList_store_blk rfl 26 (.tmp 12) (.tmp 30) rfl _ 512 (fl 64 (dq n m d F G).1) rfl rfl 26 _ (((Blk.new W3 512 26 (fl 64 (fun _ _ => 0))).alloc (.cells (zb 512 (fl 64 (fun _ _ => 0))) 26))) Try.size26 ?_; try simp only [Act.put]) | (refine wpList_store_blk rfl 26 (.tmp 13) (.tmp 31) rfl _ 512 (fl 64 (dq n m d F G).2) rfl rfl 26 _ (((show Blk ((W3.alloc (.cells (zb 512 (fl 64 (fun _ _ => 0))) 26)).alloc (.cells (zb 512 (fl 64 (fun _ _ => 0))) 26)) (W3.heap.size + 1) 512 26 (fl 64 (fun _ _ => 0)) by have := Blk.new (W3.alloc (.cells (zb 512 (fl 64 (fun _ _ => 0))) 26)) 512 26 (fl 64 (fun _ _ => 0)); simpa using this).rowOther (by omega))) Try.size26 ?_; try simp only [Act.put]))
   have lt_B0 := B0.lt
   have lt_B1 := B1.lt
   have lt_B2 := B2.lt
   have lt_B3 := B3.lt
   have lt_B4 := B4.lt
   have lhb := hb.size
   obtain ⟨W4, hwo, hzQ⟩ : ∃ v : World, v = ((((W3.alloc (.cells (zb 512 (fl 64 (fun _ _ => 0))) 26)).alloc (.cells (zb 512 (fl 64 (fun _ _ => 0))) 26)).setRow (W3.heap.size) (zb 512 (fl 64 (dq n m d F G).1))).setRow (W3.heap.size + 1) (zb 512 (fl 64 (dq n m d F G).2))) ∧ Blk v (w.heap.size) 64 24 (m) ∧ Blk v (w.heap.size + 1) 512 26 (fl 64 F) ∧ Blk v (w.heap.size + 1 + 1) 512 26 (fl 64 G) ∧ Blk v (w.heap.size + 1 + 1 + 1) 512 26 (fl 64 (fun _ _ => 0)) ∧ Blk v (w.heap.size + 1 + 1 + 1 + 1) 512 26 (fl 64 (fun _ _ => 0)) ∧ Blk v (W3.heap.size) 512 26 (fl 64 (dq n m d F G).1) ∧ Blk v (W3.heap.size + 1) 512 26 (fl 64 (dq n m d F G).2) ∧ Below w.heap.size w v := ⟨_, rfl, ((((B0.alloc (.cells (zb 512 (fl 64 (fun _ _ => 0))) 26)).alloc (.cells (zb 512 (fl 64 (fun _ _ => 0))) 26)).rowOther (by omega)).rowOther (by omega)), ((((B1.alloc (.cells (zb 512 (fl 64 (fun _ _ => 0))) 26)).alloc (.cells (zb 512 (fl 64 (fun _ _ => 0))) 26)).rowOther (by omega)).rowOther (by omega)), ((((B2.alloc (.cells (zb 512 (fl 64 (fun _ _ => 0))) 26)).alloc (.cells (zb 512 (fl 64 (fun _ _ => 0))) 26)).rowOther (by omega)).rowOther (by omega)), ((((B3.alloc (.cells (zb 512 (fl 64 (fun _ _ => 0))) 26)).alloc (.cells (zb 512 (fl 64 (fun _ _ => 0))) 26)).rowOther (by omega)).rowOther (by omega)), ((((B4.alloc (.cells (zb 512 (fl 64 (fun _ _ => 0))) 26)).alloc (.cells (zb 512 (fl 64 (fun _ _ => 0))) 26)).rowOther (by omega)).rowOther (by omega)), ((((Blk.new W3 512 26 (fl 64 (fun _ _ => 0))).alloc (.cells (zb 512 (fl 64 (fun _ _ => 0))) 26)).row (fl 64 (dq n m d F G).1)).rowOther (by omega)), (((show Blk ((W3.alloc (.cells (zb 512 (fl 64 (fun _ _ => 0))) 26)).alloc (.cells (zb 512 (fl 64 (fun _ _ => 0))) 26)) (W3.heap.size + 1) 512 26 (fl 64 (fun _ _ => 0)) by have := Blk.new (W3.alloc (.cells (zb 512 (fl 64 (fun _ _ => 0))) 26)) 512 26 (fl 64 (fun _ _ => 0)); simpa using this).rowOther (by omega)).row (fl 64 (dq n m d F G).2)), (zr (zr ((hb.alloc (by have := hb.size; simp; omega) (.cells (zb 512 (fl 64 (fun _ _ => 0))) 26)).alloc (by have := hb.size; simp; omega) (.cells (zb 512 (fl 64 (fun _ _ => 0))) 26)) (by omega) _) (by omega) _)⟩
   rw [← hwo]
   clear hwo B0 B1 B2 B3 B4 hb
   obtain ⟨B0, B1, B2, B3, B4, B5, B6, hb⟩ := hzQ
   obtain ⟨N1, hNN⟩ : ∃ n : Nat, n = W3.heap.size := ⟨_, rfl⟩
   rw [← hNN] at lt_B0 lt_B1 lt_B2 lt_B3 lt_B4 lhb B5 B6 ⊢
   clear hNN
   have zN1_0 := lt_B0
   have zN1_1 := lt_B1
   have zN1_2 := lt_B2
   have zN1_3 := lt_B3
   have zN1_4 := lt_B4
   have zN1 := lhb
   clear lt_B0 lt_B1 lt_B2 lt_B3 lt_B4 lhb
   try simp only [Act.put, pA, pB, pC]
   have lt_B0 : (w.heap.size) < W4.heap.size := B0.lt
   have lt_B1 : (w.heap.size + 1) < W4.heap.size := B1.lt
   have lt_B2 : (w.heap.size + 1 + 1) < W4.heap.size := B2.lt
   have lt_B3 : (w.heap.size + 1 + 1 + 1) < W4.heap.size := B3.lt
   have lt_B4 : (w.heap.size + 1 + 1 + 1 + 1) < W4.heap.size := B4.lt
   have lt_B5 : (N1) < W4.heap.size := B5.lt
   have lt_B6 : (N1 + 1) < W4.heap.size := B6.lt
   have hbase : w.heap.size ≤ W4.heap.size := hb.size
   refine zq Try.mixed (by kernel_rfl) (by kernel_rfl) (fun v => by (simp only [frL, Act.put, pA, pB, pC, Nat.reduceAdd, Nat.zero_add]; exact rfl))
    (fun L v W5 => Below w.heap.size w W5 ∧ Kx [w.heap.size + 1 + 1 + 1, w.heap.size + 1 + 1 + 1 + 1] W4 W5 ∧ (∃ g, Blk W5 (w.heap.size + 1 + 1 + 1) 512 26 (g)) ∧ (L 2 = false → Blk W5 (w.heap.size + 1 + 1 + 1) 512 26 (fl 64 (fun _ _ => 0))) ∧ (L 2 = true → Blk W5 (w.heap.size + 1 + 1 + 1) 512 26 (fl 64 (dq n m d F G).1)) ∧ (∃ g, Blk W5 (w.heap.size + 1 + 1 + 1 + 1) 512 26 (g)) ∧ (L 3 = false → Blk W5 (w.heap.size + 1 + 1 + 1 + 1) 512 26 (fl 64 (fun _ _ => 0))) ∧ (L 3 = true → Blk W5 (w.heap.size + 1 + 1 + 1 + 1) 512 26 (fl 64 (dq n m d F G).2)) ∧ VF L v [some (.agg (zb 512 (fl 64 (dq n m d F G).1))), some (.agg (zb 512 (fl 64 (dq n m d F G).2))), none, none, some (.int .i64 0)]) ?_ ?_ ?_
   · intro v hv0
     exact ⟨hb.drew, Kx.start _ _, ⟨_, B3.drew⟩, (fun _ => B3.drew), (fun h => by cases h), ⟨_, B4.drew⟩, (fun _ => B4.drew), (fun h => by cases h), VF.start⟩
   · refine (.cons rfl ?_ (.cons rfl ?_ (.cons rfl ?_ (.cons rfl ?_ (.cons rfl ?_ (.nil _))))))
     all_goals intro L v W5 hd hn ⟨hB, hX, x3, q3, n3, x4, q4, n4, V⟩ K hK
     · refine wp_load_any 26 _ rfl _ rfl 512 26 _ (B5.kx hX (by simp <;> omega)) _ Try.underlying26 rfl Try.size26 ?_
       exact hK _ _ _ rfl ⟨hB, hX, x3, q3, n3, x4, q4, n4, V.step 0 rfl⟩
     · refine wp_load_any 26 _ rfl _ rfl 512 26 _ (B6.kx hX (by simp <;> omega)) _ Try.underlying26 rfl Try.size26 ?_
       exact hK _ _ _ rfl ⟨hB, hX, x3, q3, n3, x4, q4, n4, V.step 1 rfl⟩
     · have e0 := V.at (zdq hd 0 rfl) rfl
       obtain ⟨gz, hk⟩ := x3
       refine zsb 26 _ _ rfl _ 512 (fl 64 (dq n m d F G).1) rfl e0 26 gz hk Try.size26 ?_
       exact hK _ undef _ rfl ⟨zr hB (by omega) _, hX.row (by simp) _, ⟨_, hk.row _⟩, (fun h => absurd h (by simp [setL])), (fun _ => hk.row _), (let ⟨g, h⟩ := x4; ⟨g, (h).rowOther (by omega)⟩), (fun h => (q4 h).rowOther (by omega)), (fun h => (n4 h).rowOther (by omega)), V.skip 2 rfl⟩
     · have e1 := V.at (zdq hd 1 rfl) rfl
       obtain ⟨gz, hk⟩ := x4
       refine zsb 26 _ _ rfl _ 512 (fl 64 (dq n m d F G).2) rfl e1 26 gz hk Try.size26 ?_
       exact hK _ undef _ rfl ⟨zr hB (by omega) _, hX.row (by simp) _, (let ⟨g, h⟩ := x3; ⟨g, (h).rowOther (by omega)⟩), (fun h => (q3 h).rowOther (by omega)), (fun h => (n3 h).rowOther (by omega)), ⟨_, hk.row _⟩, (fun h => absurd h (by simp [setL])), (fun _ => hk.row _), V.skip 3 rfl⟩
     go_wp2_with fail
     exact hK _ (.int .i64 0) _ (by simp only [Act.put, pA, pB, pC ]) ⟨hB, hX, x3, q3, n3, x4, q4, n4, V.step 4 rfl⟩
   intro L v W5 hL ⟨hB, hX, x3, q3, n3, x4, q4, n4, V⟩
   have r3 := n3 (hL 2 (by decide))
   have r4 := n4 (hL 3 (by decide))
   have e0 := V.at (hL 0 (by decide)) rfl
   have e1 := V.at (hL 1 (by decide)) rfl
   have e4 := V.at (hL 4 (by decide)) rfl
   clear hL x3 q3 n3 x4 q4 n4 V
   replace B0 := B0.kx hX (by simp <;> omega)
   replace B1 := B1.kx hX (by simp <;> omega)
   replace B2 := B2.kx hX (by simp <;> omega)
   replace B5 := B5.kx hX (by simp <;> omega)
   replace B6 := B6.kx hX (by simp <;> omega)
   clear hX
   simp only [Exit.then, e0, e1, e4]
   clear e0 e1 e4
   replace B3 := r3
   clear r3
   replace B4 := r4
   clear r4
   replace hb := hB
   clear hB
   clear hbase lt_B0 lt_B1 lt_B2 lt_B3 lt_B4 lt_B5 lt_B6
   go_wp2_with fail
   refine bodyPost_ret (results_any2t rfl _ _ _ 512 _ _ _ 512 _ _ rfl B3 _ Try.underlying26 rfl Try.size26 rfl B4 _ Try.underlying26 rfl Try.size26) rfl ⟨by first | (rw [HV.out]; rfl) | rw [HV.out], hb⟩
 skip
 have HV := Lib.hid (drV_1 hc)
 have HC := Lib.hid (cdV_1 hc)
 go_upto_region 3 with (first | (refine zla (.tmp 5) B0 Try.underlying24 Try.size24 ?_) | (refine zla (.tmp 6) B1 Try.underlying26 Try.size26 ?_) | (refine zla (.tmp 7) B2 Try.underlying26 Try.size26 ?_) | (go_at_call 101; refine (l03Divided_any p m F G hm hF hG _).mono ?_; rintro e W2 ⟨rfl, hW2⟩; replace B0 := B0.zw hW2; replace B1 := B1.zw hW2; replace B2 := B2.zw hW2; replace B3 := B3.zw hW2; replace B4 := B4.zw hW2; replace hb := (hb).trans (hW2.mono (hb).size); rw [HC.out]))
 go_wp2_with (first | rw [← z64] | rw [← zero512] | (refine zsr (.tmp 8) (.tmp 21) (fl 64 (fun _ _ => 0)) B3 Try.size26 ?_; try simp only [Act.put]) | (refine wpList_store_blk rfl 26 (.tmp 9) (.tmp 22) rfl _ 512 (fl 64 (fun _ _ => 0)) rfl rfl 26 _ ((B4.rowOther (by omega))) Try.size26 ?_; try simp only [Act.put]; go_wp2_with fail))
 obtain ⟨W3, hwo, hzQ⟩ : ∃ v : World, v = ((W2.setRow (w.heap.size + 1 + 1 + 1) (zb 512 (fl 64 (fun _ _ => 0)))).setRow (w.heap.size + 1 + 1 + 1 + 1) (zb 512 (fl 64 (fun _ _ => 0)))) ∧ Blk v (w.heap.size) 64 24 (m) ∧ Blk v (w.heap.size + 1) 512 26 (fl 64 F) ∧ Blk v (w.heap.size + 1 + 1) 512 26 (fl 64 G) ∧ Blk v (w.heap.size + 1 + 1 + 1) 512 26 (fl 64 (fun _ _ => 0)) ∧ Blk v (w.heap.size + 1 + 1 + 1 + 1) 512 26 (fl 64 (fun _ _ => 0)) ∧ Below w.heap.size w v := ⟨_, rfl, ((B0.rowOther (by omega)).rowOther (by omega)), ((B1.rowOther (by omega)).rowOther (by omega)), ((B2.rowOther (by omega)).rowOther (by omega)), ((B3.row (fl 64 (fun _ _ => 0))).rowOther (by omega)), ((B4.rowOther (by omega)).row (fl 64 (fun _ _ => 0))), (zr (zr hb (by omega) _) (by omega) _)⟩
 rw [← hwo]
 clear hwo B0 B1 B2 B3 B4 hb
 obtain ⟨B0, B1, B2, B3, B4, hb⟩ := hzQ
 try simp only [Act.put, pA, pB, pC]
 refine bodyPost_ret (results_any2t rfl _ _ _ 512 _ _ _ 512 _ _ rfl B3 _ Try.underlying26 rfl Try.size26 rfl B4 _ Try.underlying26 rfl Try.size26) rfl ⟨by first | (rw [HV.out]; rfl) | rw [HV.out], hb⟩
theorem divideSkewsR_any (p : Int) (m : Nat → Nat) (F G : Nat → Nat → Nat) (hm : byte m) (hF : ∀ i, byte (F i)) (hG : ∀ i, byte (G i)) (w : World) :
 Calls Try.prog 103 #[.int .i64 p, .agg (zb 64 m), .agg (zb 512 (fl 64 F)), .agg (zb 512 (fl 64 G)), .func (.func 104) #[] #[]] w fun e w' => e = .returned (.tuple #[.agg (zb 512 (fl 64 (drV p m F G).1.1)), .agg (zb 512 (fl 64 (drV p m F G).1.2)), .int .i64 (drV p m F G).2]) ∧ Below w.heap.size w w' := by
 go_enter Try.func103, Try.ntmps103
 go_upto_region 1 with (fail)
 rw [← zero512]
 obtain ⟨W1, hwo⟩ : ∃ v : World, v = (((((w.alloc (.cells (zb 64 (m)) 24)).alloc (.cells (zb 512 (fl 64 F)) 26)).alloc (.cells (zb 512 (fl 64 G)) 26)).alloc (.cells (zb 512 (fl 64 (fun _ _ => 0))) 26)).alloc (.cells (zb 512 (fl 64 (fun _ _ => 0))) 26)) := ⟨_, rfl⟩
 have B0 : Blk W1 (w.heap.size) 64 24 (m) := by subst hwo; have := (((((Blk.new w 64 24 (m)).alloc (.cells (zb 512 (fl 64 F)) 26)).alloc (.cells (zb 512 (fl 64 G)) 26)).alloc (.cells (zb 512 (fl 64 (fun _ _ => 0))) 26)).alloc (.cells (zb 512 (fl 64 (fun _ _ => 0))) 26)); simpa using this
 have B1 : Blk W1 (w.heap.size + 1) 512 26 (fl 64 F) := by subst hwo; have := ((((Blk.new (w.alloc (.cells (zb 64 (m)) 24)) 512 26 (fl 64 F)).alloc (.cells (zb 512 (fl 64 G)) 26)).alloc (.cells (zb 512 (fl 64 (fun _ _ => 0))) 26)).alloc (.cells (zb 512 (fl 64 (fun _ _ => 0))) 26)); simpa using this
 have B2 : Blk W1 (w.heap.size + 1 + 1) 512 26 (fl 64 G) := by subst hwo; have := (((Blk.new ((w.alloc (.cells (zb 64 (m)) 24)).alloc (.cells (zb 512 (fl 64 F)) 26)) 512 26 (fl 64 G)).alloc (.cells (zb 512 (fl 64 (fun _ _ => 0))) 26)).alloc (.cells (zb 512 (fl 64 (fun _ _ => 0))) 26)); simpa using this
 have B3 : Blk W1 (w.heap.size + 1 + 1 + 1) 512 26 (fl 64 (fun _ _ => 0)) := by subst hwo; have := ((Blk.new (((w.alloc (.cells (zb 64 (m)) 24)).alloc (.cells (zb 512 (fl 64 F)) 26)).alloc (.cells (zb 512 (fl 64 G)) 26)) 512 26 (fl 64 (fun _ _ => 0))).alloc (.cells (zb 512 (fl 64 (fun _ _ => 0))) 26)); simpa using this
 have B4 : Blk W1 (w.heap.size + 1 + 1 + 1 + 1) 512 26 (fl 64 (fun _ _ => 0)) := by subst hwo; have := (Blk.new ((((w.alloc (.cells (zb 64 (m)) 24)).alloc (.cells (zb 512 (fl 64 F)) 26)).alloc (.cells (zb 512 (fl 64 G)) 26)).alloc (.cells (zb 512 (fl 64 (fun _ _ => 0))) 26)) 512 26 (fl 64 (fun _ _ => 0))); simpa using this
 have hb : Below w.heap.size w W1 := by subst hwo; exact ((((((Below.refl _ _).alloc (Nat.le_refl _) _).alloc (by simp) _).alloc (by simp; omega) _).alloc (by simp; omega) _).alloc (by simp; omega) _)
 rw [← hwo]
 clear hwo
 rcases ckS_two p m [F, G] with hc | hc
 · by_cases hz : skD G < 0
   · have HV := Lib.hid (drV_5 hc hz)
     have hgd := Try.noGuard26
     have heq := fun W => run_equalIn_sk (P := Try.prog) W 9997 26 24 5 G (fun _ _ => 0) Try.underlying26 Try.underlying24 Try.underlying5 Try.size24 Try.size5
     rw [skE_zero, decide_eq_true hz] at heq
     go_upto_region 4 with (first | (refine zla (.tmp 6) B0 Try.underlying24 Try.size24 ?_) | (refine zla (.tmp 7) B1 Try.underlying26 Try.size26 ?_) | (refine zla (.tmp 8) B2 Try.underlying26 Try.size26 ?_) | (refine zbk rfl 170 _ [F, G] rfl 26 Try.underlying170 Try.elem26 (by simp) (by simp) rfl ?_; intro wa hps hba) | (go_at_call 94; refine (checkSkews_any _ m hm [F, G] (by simp [hF, hG]) (by simp) _ _ hps).mono ?_; rintro e W2 ⟨rfl, hbb⟩; rw [hc]))
     have hBB : Below W1.heap.size W1 W2 := hba.trans (hbb.mono hba.size)
     replace B0 := B0.zw hBB
     replace B1 := B1.zw hBB
     replace B2 := B2.zw hBB
     replace B3 := B3.zw hBB
     replace B4 := B4.zw hBB
     replace hb := hb.trans (hBB.mono hb.size)
     clear hBB hba hbb hps
     clear hc
     go_upto_region 5 with (first | rw [← zero512] | (refine zla (.tmp 8) B2 Try.underlying26 Try.size26 ?_))
     clear heq hgd
     have lt_B0 := B0.lt
     have lt_B1 := B1.lt
     have lt_B2 := B2.lt
     have lt_B3 := B3.lt
     have lt_B4 := B4.lt
     go_wp2_with (first | rw [← z64] | rw [← zero512] | (refine zsr (.tmp 10) (.tmp 30) (fl 64 (fun _ _ => 0)) B3 Try.size26 ?_; try simp only [Act.put]) | (refine wpList_store_blk rfl 26 (.tmp 11) (.tmp 31) rfl _ 512 (fl 64 (fun _ _ => 0)) rfl rfl 26 _ ((B4.rowOther (by omega))) Try.size26 ?_; try simp only [Act.put]; go_wp2_with fail))
     obtain ⟨W3, hwo, hzQ⟩ : ∃ v : World, v = ((W2.setRow (w.heap.size + 1 + 1 + 1) (zb 512 (fl 64 (fun _ _ => 0)))).setRow (w.heap.size + 1 + 1 + 1 + 1) (zb 512 (fl 64 (fun _ _ => 0)))) ∧ Blk v (w.heap.size) 64 24 (m) ∧ Blk v (w.heap.size + 1) 512 26 (fl 64 F) ∧ Blk v (w.heap.size + 1 + 1) 512 26 (fl 64 G) ∧ Blk v (w.heap.size + 1 + 1 + 1) 512 26 (fl 64 (fun _ _ => 0)) ∧ Blk v (w.heap.size + 1 + 1 + 1 + 1) 512 26 (fl 64 (fun _ _ => 0)) ∧ Below w.heap.size w v := ⟨_, rfl, ((B0.rowOther (by omega)).rowOther (by omega)), ((B1.rowOther (by omega)).rowOther (by omega)), ((B2.rowOther (by omega)).rowOther (by omega)), ((B3.row (fl 64 (fun _ _ => 0))).rowOther (by omega)), ((B4.rowOther (by omega)).row (fl 64 (fun _ _ => 0))), (zr (zr hb (by omega) _) (by omega) _)⟩
     rw [← hwo]
     clear hwo B0 B1 B2 B3 B4 hb
     obtain ⟨B0, B1, B2, B3, B4, hb⟩ := hzQ
     try simp only [Act.put, pA, pB, pC]
     refine bodyPost_ret (results_any2t rfl _ _ _ 512 _ _ _ 512 _ _ rfl B3 _ Try.underlying26 rfl Try.size26 rfl B4 _ Try.underlying26 rfl Try.size26) rfl ⟨by first | (rw [HV.out]; rfl) | rw [HV.out], hb⟩
   obtain ⟨n, rfl, hpr, lm, ⟨d, hmon, hd1, hd4⟩, hl⟩ := ckS_fld hc
   have hd := hmon.1
   have lF : ∀ i, i < 8 → ∀ j, j < 64 → F i j < n := fun i hi => (hl F (by simp) i hi).1
   have rF : rsk n m F := ckS_rsk hl (by simp)
   have rG : rsk n m G := ckS_rsk hl (by simp)
   have hirr := ckS_irr hc hmon
   obtain ⟨b1, b2⟩ := zsd G
   have HV := Lib.hid (drV_0 hc hd hz)
   have HDV := Lib.hid (fun W => skDivR_any n m F G W hpr lm d hmon hirr (by omega) rF rG (by omega))
   have hgd := Try.noGuard26
   have heq := fun W => run_equalIn_sk (P := Try.prog) W 9997 26 24 5 G (fun _ _ => 0) Try.underlying26 Try.underlying24 Try.underlying5 Try.size24 Try.size5
   rw [skE_zero, decide_eq_false hz] at heq
   clear hl lF rF rG hirr hmon hz b1 b2 lm hpr hd
   go_upto_region 4 with (first | (refine zla (.tmp 6) B0 Try.underlying24 Try.size24 ?_) | (refine zla (.tmp 7) B1 Try.underlying26 Try.size26 ?_) | (refine zla (.tmp 8) B2 Try.underlying26 Try.size26 ?_) | (refine zbk rfl 170 _ [F, G] rfl 26 Try.underlying170 Try.elem26 (by simp) (by simp) rfl ?_; intro wa hps hba) | (go_at_call 94; refine (checkSkews_any _ m hm [F, G] (by simp [hF, hG]) (by simp) _ _ hps).mono ?_; rintro e W2 ⟨rfl, hbb⟩; rw [hc]))
   have hBB : Below W1.heap.size W1 W2 := hba.trans (hbb.mono hba.size)
   replace B0 := B0.zw hBB
   replace B1 := B1.zw hBB
   replace B2 := B2.zw hBB
   replace B3 := B3.zw hBB
   replace B4 := B4.zw hBB
   replace hb := hb.trans (hBB.mono hb.size)
   clear hBB hba hbb hps
   clear hc
   go_upto_region 6 with (first | rw [← zero512] | (refine zla (.tmp 8) B2 Try.underlying26 Try.size26 ?_))
   clear heq hgd
   have lt_B0 := B0.lt
   have lt_B1 := B1.lt
   have lt_B2 := B2.lt
   have lt_B3 := B3.lt
   have lt_B4 := B4.lt
   go_upto_region 7 with (first | rw [← z64] | rw [← zero512] | (refine zla (.tmp 7) B1 Try.underlying26 Try.size26 ?_) | (refine zla (.tmp 6) B0 Try.underlying24 Try.size24 ?_) | (refine zbo rfl 96 _ rfl (fdC (n : Int) m).toArray (by rw [Array.toList_map]; exact built_fd (n : Int) m) ?_) | (refine zla (.tmp 8) B2 Try.underlying26 Try.size26 ?_) | (go_at_call 195; refine (HDV.out _).mono ?_; rintro e W3 ⟨rfl, hW3⟩; replace B0 := B0.zw hW3; replace B1 := B1.zw hW3; replace B2 := B2.zw hW3; replace B3 := B3.zw hW3; replace B4 := B4.zw hW3; replace hb := (hb).trans (hW3.mono (hb).size)) | (refine wpList_store_blk rfl 26 (.tmp 14) (.tmp 40) rfl _ 512 (fl 64 (dq n m d F G).1) rfl rfl 26 _ (((Blk.new W3 512 26 (fl 64 (fun _ _ => 0))).alloc (.cells (zb 512 (fl 64 (fun _ _ => 0))) 26))) Try.size26 ?_; try simp only [Act.put]) | (refine wpList_store_blk rfl 26 (.tmp 15) (.tmp 41) rfl _ 512 (fl 64 (dq n m d F G).2) rfl rfl 26 _ (((show Blk ((W3.alloc (.cells (zb 512 (fl 64 (fun _ _ => 0))) 26)).alloc (.cells (zb 512 (fl 64 (fun _ _ => 0))) 26)) (W3.heap.size + 1) 512 26 (fl 64 (fun _ _ => 0)) by have := Blk.new (W3.alloc (.cells (zb 512 (fl 64 (fun _ _ => 0))) 26)) 512 26 (fl 64 (fun _ _ => 0)); simpa using this).rowOther (by omega))) Try.size26 ?_; try simp only [Act.put]))
   have lt_B0 := B0.lt
   have lt_B1 := B1.lt
   have lt_B2 := B2.lt
   have lt_B3 := B3.lt
   have lt_B4 := B4.lt
   have lhb := hb.size
   obtain ⟨W4, hwo, hzQ⟩ : ∃ v : World, v = ((((W3.alloc (.cells (zb 512 (fl 64 (fun _ _ => 0))) 26)).alloc (.cells (zb 512 (fl 64 (fun _ _ => 0))) 26)).setRow (W3.heap.size) (zb 512 (fl 64 (dq n m d F G).1))).setRow (W3.heap.size + 1) (zb 512 (fl 64 (dq n m d F G).2))) ∧ Blk v (w.heap.size) 64 24 (m) ∧ Blk v (w.heap.size + 1) 512 26 (fl 64 F) ∧ Blk v (w.heap.size + 1 + 1) 512 26 (fl 64 G) ∧ Blk v (w.heap.size + 1 + 1 + 1) 512 26 (fl 64 (fun _ _ => 0)) ∧ Blk v (w.heap.size + 1 + 1 + 1 + 1) 512 26 (fl 64 (fun _ _ => 0)) ∧ Blk v (W3.heap.size) 512 26 (fl 64 (dq n m d F G).1) ∧ Blk v (W3.heap.size + 1) 512 26 (fl 64 (dq n m d F G).2) ∧ Below w.heap.size w v := ⟨_, rfl, ((((B0.alloc (.cells (zb 512 (fl 64 (fun _ _ => 0))) 26)).alloc (.cells (zb 512 (fl 64 (fun _ _ => 0))) 26)).rowOther (by omega)).rowOther (by omega)), ((((B1.alloc (.cells (zb 512 (fl 64 (fun _ _ => 0))) 26)).alloc (.cells (zb 512 (fl 64 (fun _ _ => 0))) 26)).rowOther (by omega)).rowOther (by omega)), ((((B2.alloc (.cells (zb 512 (fl 64 (fun _ _ => 0))) 26)).alloc (.cells (zb 512 (fl 64 (fun _ _ => 0))) 26)).rowOther (by omega)).rowOther (by omega)), ((((B3.alloc (.cells (zb 512 (fl 64 (fun _ _ => 0))) 26)).alloc (.cells (zb 512 (fl 64 (fun _ _ => 0))) 26)).rowOther (by omega)).rowOther (by omega)), ((((B4.alloc (.cells (zb 512 (fl 64 (fun _ _ => 0))) 26)).alloc (.cells (zb 512 (fl 64 (fun _ _ => 0))) 26)).rowOther (by omega)).rowOther (by omega)), ((((Blk.new W3 512 26 (fl 64 (fun _ _ => 0))).alloc (.cells (zb 512 (fl 64 (fun _ _ => 0))) 26)).row (fl 64 (dq n m d F G).1)).rowOther (by omega)), (((show Blk ((W3.alloc (.cells (zb 512 (fl 64 (fun _ _ => 0))) 26)).alloc (.cells (zb 512 (fl 64 (fun _ _ => 0))) 26)) (W3.heap.size + 1) 512 26 (fl 64 (fun _ _ => 0)) by have := Blk.new (W3.alloc (.cells (zb 512 (fl 64 (fun _ _ => 0))) 26)) 512 26 (fl 64 (fun _ _ => 0)); simpa using this).rowOther (by omega)).row (fl 64 (dq n m d F G).2)), (zr (zr ((hb.alloc (by have := hb.size; simp; omega) (.cells (zb 512 (fl 64 (fun _ _ => 0))) 26)).alloc (by have := hb.size; simp; omega) (.cells (zb 512 (fl 64 (fun _ _ => 0))) 26)) (by omega) _) (by omega) _)⟩
   rw [← hwo]
   clear hwo B0 B1 B2 B3 B4 hb
   obtain ⟨B0, B1, B2, B3, B4, B5, B6, hb⟩ := hzQ
   obtain ⟨N1, hNN⟩ : ∃ n : Nat, n = W3.heap.size := ⟨_, rfl⟩
   rw [← hNN] at lt_B0 lt_B1 lt_B2 lt_B3 lt_B4 lhb B5 B6 ⊢
   clear hNN
   have zN1_0 := lt_B0
   have zN1_1 := lt_B1
   have zN1_2 := lt_B2
   have zN1_3 := lt_B3
   have zN1_4 := lt_B4
   have zN1 := lhb
   clear lt_B0 lt_B1 lt_B2 lt_B3 lt_B4 lhb
   try simp only [Act.put, pA, pB, pC]
   have lt_B0 : (w.heap.size) < W4.heap.size := B0.lt
   have lt_B1 : (w.heap.size + 1) < W4.heap.size := B1.lt
   have lt_B2 : (w.heap.size + 1 + 1) < W4.heap.size := B2.lt
   have lt_B3 : (w.heap.size + 1 + 1 + 1) < W4.heap.size := B3.lt
   have lt_B4 : (w.heap.size + 1 + 1 + 1 + 1) < W4.heap.size := B4.lt
   have lt_B5 : (N1) < W4.heap.size := B5.lt
   have lt_B6 : (N1 + 1) < W4.heap.size := B6.lt
   have hbase : w.heap.size ≤ W4.heap.size := hb.size
   refine zq Try.mixed (by kernel_rfl) (by kernel_rfl) (fun v => by (simp only [frL, Act.put, pA, pB, pC, Nat.reduceAdd, Nat.zero_add]; exact rfl))
    (fun L v W5 => Below w.heap.size w W5 ∧ Kx [w.heap.size + 1 + 1 + 1, w.heap.size + 1 + 1 + 1 + 1] W4 W5 ∧ (∃ g, Blk W5 (w.heap.size + 1 + 1 + 1) 512 26 (g)) ∧ (L 2 = false → Blk W5 (w.heap.size + 1 + 1 + 1) 512 26 (fl 64 (fun _ _ => 0))) ∧ (L 2 = true → Blk W5 (w.heap.size + 1 + 1 + 1) 512 26 (fl 64 (dq n m d F G).1)) ∧ (∃ g, Blk W5 (w.heap.size + 1 + 1 + 1 + 1) 512 26 (g)) ∧ (L 3 = false → Blk W5 (w.heap.size + 1 + 1 + 1 + 1) 512 26 (fl 64 (fun _ _ => 0))) ∧ (L 3 = true → Blk W5 (w.heap.size + 1 + 1 + 1 + 1) 512 26 (fl 64 (dq n m d F G).2)) ∧ VF L v [some (.agg (zb 512 (fl 64 (dq n m d F G).1))), some (.agg (zb 512 (fl 64 (dq n m d F G).2))), none, none, some (.int .i64 0)]) ?_ ?_ ?_
   · intro v hv0
     exact ⟨hb.drew, Kx.start _ _, ⟨_, B3.drew⟩, (fun _ => B3.drew), (fun h => by cases h), ⟨_, B4.drew⟩, (fun _ => B4.drew), (fun h => by cases h), VF.start⟩
   · refine (.cons rfl ?_ (.cons rfl ?_ (.cons rfl ?_ (.cons rfl ?_ (.cons rfl ?_ (.nil _))))))
     all_goals intro L v W5 hd hn ⟨hB, hX, x3, q3, n3, x4, q4, n4, V⟩ K hK
     · refine wp_load_any 26 _ rfl _ rfl 512 26 _ (B5.kx hX (by simp <;> omega)) _ Try.underlying26 rfl Try.size26 ?_
       exact hK _ _ _ rfl ⟨hB, hX, x3, q3, n3, x4, q4, n4, V.step 0 rfl⟩
     · refine wp_load_any 26 _ rfl _ rfl 512 26 _ (B6.kx hX (by simp <;> omega)) _ Try.underlying26 rfl Try.size26 ?_
       exact hK _ _ _ rfl ⟨hB, hX, x3, q3, n3, x4, q4, n4, V.step 1 rfl⟩
     · have e0 := V.at (zdq hd 0 rfl) rfl
       obtain ⟨gz, hk⟩ := x3
       refine zsb 26 _ _ rfl _ 512 (fl 64 (dq n m d F G).1) rfl e0 26 gz hk Try.size26 ?_
       exact hK _ undef _ rfl ⟨zr hB (by omega) _, hX.row (by simp) _, ⟨_, hk.row _⟩, (fun h => absurd h (by simp [setL])), (fun _ => hk.row _), (let ⟨g, h⟩ := x4; ⟨g, (h).rowOther (by omega)⟩), (fun h => (q4 h).rowOther (by omega)), (fun h => (n4 h).rowOther (by omega)), V.skip 2 rfl⟩
     · have e1 := V.at (zdq hd 1 rfl) rfl
       obtain ⟨gz, hk⟩ := x4
       refine zsb 26 _ _ rfl _ 512 (fl 64 (dq n m d F G).2) rfl e1 26 gz hk Try.size26 ?_
       exact hK _ undef _ rfl ⟨zr hB (by omega) _, hX.row (by simp) _, (let ⟨g, h⟩ := x3; ⟨g, (h).rowOther (by omega)⟩), (fun h => (q3 h).rowOther (by omega)), (fun h => (n3 h).rowOther (by omega)), ⟨_, hk.row _⟩, (fun h => absurd h (by simp [setL])), (fun _ => hk.row _), V.skip 3 rfl⟩
     go_wp2_with fail
     exact hK _ (.int .i64 0) _ (by simp only [Act.put, pA, pB, pC ]) ⟨hB, hX, x3, q3, n3, x4, q4, n4, V.step 4 rfl⟩
   intro L v W5 hL ⟨hB, hX, x3, q3, n3, x4, q4, n4, V⟩
   have r3 := n3 (hL 2 (by decide))
   have r4 := n4 (hL 3 (by decide))
   have e0 := V.at (hL 0 (by decide)) rfl
   have e1 := V.at (hL 1 (by decide)) rfl
   have e4 := V.at (hL 4 (by decide)) rfl
   clear hL x3 q3 n3 x4 q4 n4 V
   replace B0 := B0.kx hX (by simp <;> omega)
   replace B1 := B1.kx hX (by simp <;> omega)
   replace B2 := B2.kx hX (by simp <;> omega)
   replace B5 := B5.kx hX (by simp <;> omega)
   replace B6 := B6.kx hX (by simp <;> omega)
   clear hX
   simp only [Exit.then, e0, e1, e4]
   clear e0 e1 e4
   replace B3 := r3
   clear r3
   replace B4 := r4
   clear r4
   replace hb := hB
   clear hB
   clear hbase lt_B0 lt_B1 lt_B2 lt_B3 lt_B4 lt_B5 lt_B6
   go_wp2_with fail
   refine bodyPost_ret (results_any2t rfl _ _ _ 512 _ _ _ 512 _ _ rfl B3 _ Try.underlying26 rfl Try.size26 rfl B4 _ Try.underlying26 rfl Try.size26) rfl ⟨by first | (rw [HV.out]; rfl) | rw [HV.out], hb⟩
 have HV := Lib.hid (drV_1 hc)
 go_upto_region 3 with (first | (refine zla (.tmp 6) B0 Try.underlying24 Try.size24 ?_) | (refine zla (.tmp 7) B1 Try.underlying26 Try.size26 ?_) | (refine zla (.tmp 8) B2 Try.underlying26 Try.size26 ?_) | (refine zbk rfl 170 _ [F, G] rfl 26 Try.underlying170 Try.elem26 (by simp) (by simp) rfl ?_; intro wa hps hba) | (go_at_call 94; refine (checkSkews_any _ m hm [F, G] (by simp [hF, hG]) (by simp) _ _ hps).mono ?_; rintro e W2 ⟨rfl, hbb⟩; rw [hc]))
 have hBB : Below W1.heap.size W1 W2 := hba.trans (hbb.mono hba.size)
 replace B0 := B0.zw hBB
 replace B1 := B1.zw hBB
 replace B2 := B2.zw hBB
 replace B3 := B3.zw hBB
 replace B4 := B4.zw hBB
 replace hb := hb.trans (hBB.mono hb.size)
 clear hBB hba hbb hps
 clear hc
 have lt_B0 := B0.lt
 have lt_B1 := B1.lt
 have lt_B2 := B2.lt
 have lt_B3 := B3.lt
 have lt_B4 := B4.lt
 go_wp2_with (first | rw [← z64] | rw [← zero512] | (refine zsr (.tmp 10) (.tmp 24) (fl 64 (fun _ _ => 0)) B3 Try.size26 ?_; try simp only [Act.put]) | (refine wpList_store_blk rfl 26 (.tmp 11) (.tmp 25) rfl _ 512 (fl 64 (fun _ _ => 0)) rfl rfl 26 _ ((B4.rowOther (by omega))) Try.size26 ?_; try simp only [Act.put]; go_wp2_with fail))
 obtain ⟨W3, hwo, hzQ⟩ : ∃ v : World, v = ((W2.setRow (w.heap.size + 1 + 1 + 1) (zb 512 (fl 64 (fun _ _ => 0)))).setRow (w.heap.size + 1 + 1 + 1 + 1) (zb 512 (fl 64 (fun _ _ => 0)))) ∧ Blk v (w.heap.size) 64 24 (m) ∧ Blk v (w.heap.size + 1) 512 26 (fl 64 F) ∧ Blk v (w.heap.size + 1 + 1) 512 26 (fl 64 G) ∧ Blk v (w.heap.size + 1 + 1 + 1) 512 26 (fl 64 (fun _ _ => 0)) ∧ Blk v (w.heap.size + 1 + 1 + 1 + 1) 512 26 (fl 64 (fun _ _ => 0)) ∧ Below w.heap.size w v := ⟨_, rfl, ((B0.rowOther (by omega)).rowOther (by omega)), ((B1.rowOther (by omega)).rowOther (by omega)), ((B2.rowOther (by omega)).rowOther (by omega)), ((B3.row (fl 64 (fun _ _ => 0))).rowOther (by omega)), ((B4.rowOther (by omega)).row (fl 64 (fun _ _ => 0))), (zr (zr hb (by omega) _) (by omega) _)⟩
 rw [← hwo]
 clear hwo B0 B1 B2 B3 B4 hb
 obtain ⟨B0, B1, B2, B3, B4, hb⟩ := hzQ
 try simp only [Act.put, pA, pB, pC]
 refine bodyPost_ret (results_any2t rfl _ _ _ 512 _ _ _ 512 _ _ rfl B3 _ Try.underlying26 rfl Try.size26 rfl B4 _ Try.underlying26 rfl Try.size26) rfl ⟨by first | (rw [HV.out]; rfl) | rw [HV.out], hb⟩
theorem impl_DivideRight_any (p : Int) (m : Nat → Nat) (F G : Nat → Nat → Nat) (hm : byte m) (hF : ∀ i, byte (F i)) (hG : ∀ i, byte (G i)) (w : World) :
 Calls Try.prog 35 #[.int .i64 p, .agg (zb 64 m), .agg (zb 512 (fl 64 F)), .agg (zb 512 (fl 64 G))] w fun e w' => e = .returned (.tuple #[.agg (zb 512 (fl 64 (drV p m F G).1.1)), .agg (zb 512 (fl 64 (drV p m F G).1.2)), .int .i64 (drV p m F G).2]) ∧ Below w.heap.size w w' := by
 have HD := Lib.hid (fun W => divideSkewsR_any p m F G hm hF hG W)
 go_enter Try.func35, Try.ntmps35
 go_upto_region 1 with (fail)
 rw [← zero512]
 obtain ⟨W1, hwo⟩ : ∃ v : World, v = (((((w.alloc (.cells (zb 64 (m)) 24)).alloc (.cells (zb 512 (fl 64 F)) 26)).alloc (.cells (zb 512 (fl 64 G)) 26)).alloc (.cells (zb 512 (fl 64 (fun _ _ => 0))) 26)).alloc (.cells (zb 512 (fl 64 (fun _ _ => 0))) 26)) := ⟨_, rfl⟩
 have B0 : Blk W1 (w.heap.size) 64 24 (m) := by subst hwo; have := (((((Blk.new w 64 24 (m)).alloc (.cells (zb 512 (fl 64 F)) 26)).alloc (.cells (zb 512 (fl 64 G)) 26)).alloc (.cells (zb 512 (fl 64 (fun _ _ => 0))) 26)).alloc (.cells (zb 512 (fl 64 (fun _ _ => 0))) 26)); simpa using this
 have B1 : Blk W1 (w.heap.size + 1) 512 26 (fl 64 F) := by subst hwo; have := ((((Blk.new (w.alloc (.cells (zb 64 (m)) 24)) 512 26 (fl 64 F)).alloc (.cells (zb 512 (fl 64 G)) 26)).alloc (.cells (zb 512 (fl 64 (fun _ _ => 0))) 26)).alloc (.cells (zb 512 (fl 64 (fun _ _ => 0))) 26)); simpa using this
 have B2 : Blk W1 (w.heap.size + 1 + 1) 512 26 (fl 64 G) := by subst hwo; have := (((Blk.new ((w.alloc (.cells (zb 64 (m)) 24)).alloc (.cells (zb 512 (fl 64 F)) 26)) 512 26 (fl 64 G)).alloc (.cells (zb 512 (fl 64 (fun _ _ => 0))) 26)).alloc (.cells (zb 512 (fl 64 (fun _ _ => 0))) 26)); simpa using this
 have B3 : Blk W1 (w.heap.size + 1 + 1 + 1) 512 26 (fl 64 (fun _ _ => 0)) := by subst hwo; have := ((Blk.new (((w.alloc (.cells (zb 64 (m)) 24)).alloc (.cells (zb 512 (fl 64 F)) 26)).alloc (.cells (zb 512 (fl 64 G)) 26)) 512 26 (fl 64 (fun _ _ => 0))).alloc (.cells (zb 512 (fl 64 (fun _ _ => 0))) 26)); simpa using this
 have B4 : Blk W1 (w.heap.size + 1 + 1 + 1 + 1) 512 26 (fl 64 (fun _ _ => 0)) := by subst hwo; have := (Blk.new ((((w.alloc (.cells (zb 64 (m)) 24)).alloc (.cells (zb 512 (fl 64 F)) 26)).alloc (.cells (zb 512 (fl 64 G)) 26)).alloc (.cells (zb 512 (fl 64 (fun _ _ => 0))) 26)) 512 26 (fl 64 (fun _ _ => 0))); simpa using this
 have hb : Below w.heap.size w W1 := by subst hwo; exact ((((((Below.refl _ _).alloc (Nat.le_refl _) _).alloc (by simp) _).alloc (by simp; omega) _).alloc (by simp; omega) _).alloc (by simp; omega) _)
 rw [← hwo]
 clear hwo
 go_wp2_with (first | rw [← z64] | rw [← zero512] | (refine zla (.tmp 5) B0 Try.underlying24 Try.size24 ?_) | (refine zla (.tmp 6) B1 Try.underlying26 Try.size26 ?_) | (refine zla (.tmp 7) B2 Try.underlying26 Try.size26 ?_) | (go_at_call 103; refine (HD.out _).mono ?_; rintro e W2 ⟨rfl, hW2⟩; replace B0 := B0.zw hW2; replace B1 := B1.zw hW2; replace B2 := B2.zw hW2; replace B3 := B3.zw hW2; replace B4 := B4.zw hW2; replace hb := (hb).trans (hW2.mono (hb).size)) | (refine zsr (.tmp 8) (.tmp 16) (fl 64 (drV p m F G).1.1) B3 Try.size26 ?_; try simp only [Act.put]) | (refine wpList_store_blk rfl 26 (.tmp 9) (.tmp 17) rfl _ 512 (fl 64 (drV p m F G).1.2) rfl rfl 26 _ ((B4.rowOther (by omega))) Try.size26 ?_; try simp only [Act.put]; go_wp2_with fail))
 obtain ⟨W3, hwo, hzQ⟩ : ∃ v : World, v = ((W2.setRow (w.heap.size + 1 + 1 + 1) (zb 512 (fl 64 (drV p m F G).1.1))).setRow (w.heap.size + 1 + 1 + 1 + 1) (zb 512 (fl 64 (drV p m F G).1.2))) ∧ Blk v (w.heap.size) 64 24 (m) ∧ Blk v (w.heap.size + 1) 512 26 (fl 64 F) ∧ Blk v (w.heap.size + 1 + 1) 512 26 (fl 64 G) ∧ Blk v (w.heap.size + 1 + 1 + 1) 512 26 (fl 64 (drV p m F G).1.1) ∧ Blk v (w.heap.size + 1 + 1 + 1 + 1) 512 26 (fl 64 (drV p m F G).1.2) ∧ Below w.heap.size w v := ⟨_, rfl, ((B0.rowOther (by omega)).rowOther (by omega)), ((B1.rowOther (by omega)).rowOther (by omega)), ((B2.rowOther (by omega)).rowOther (by omega)), ((B3.row (fl 64 (drV p m F G).1.1)).rowOther (by omega)), ((B4.rowOther (by omega)).row (fl 64 (drV p m F G).1.2)), (zr (zr hb (by omega) _) (by omega) _)⟩
 rw [← hwo]
 clear hwo B0 B1 B2 B3 B4 hb
 obtain ⟨B0, B1, B2, B3, B4, hb⟩ := hzQ
 try simp only [Act.put, pA, pB, pC]
 refine bodyPost_ret (results_any2t rfl _ _ _ 512 _ _ _ 512 _ _ rfl B3 _ Try.underlying26 rfl Try.size26 rfl B4 _ Try.underlying26 rfl Try.size26) rfl ⟨rfl, hb⟩
end Go.Proofs.Yteloknnooebabaa
namespace Go.Proofs.Yteloknnooebabaa
open Go Go.RowKit
theorem FnExactDivideRight_walk (p : Int) (m : Nat → Nat) (F : Nat → Nat → Nat) (G : Nat → Nat → Nat) (hm : byte m) (hF : ∀ i, byte (F i)) (hG : ∀ i, byte (G i)) (w : World) :
 Calls Try.prog 5 #[.int .i64 p, .agg (zb 64 m), .agg (zb 512 (fl 64 F)), .agg (zb 512 (fl 64 G))] w fun e w' => e = .returned (.bool true) ∧ Below w.heap.size w w' := by
 go_enter Try.func5, Try.ntmps5
 go_upto_region 1 with (fail)
 obtain ⟨W1, hwo⟩ : ∃ v : World, v = (((w.alloc (.cells (zb 64 (m)) 22)).alloc (.cells (zb 512 (fl 64 F)) 23)).alloc (.cells (zb 512 (fl 64 G)) 23)) := ⟨_, rfl⟩
 have B0 : Blk W1 (w.heap.size) 64 22 (m) := by subst hwo; have := (((Blk.new w 64 22 (m)).alloc (.cells (zb 512 (fl 64 F)) 23)).alloc (.cells (zb 512 (fl 64 G)) 23)); simpa using this
 have B1 : Blk W1 (w.heap.size + 1) 512 23 (fl 64 F) := by subst hwo; have := ((Blk.new (w.alloc (.cells (zb 64 (m)) 22)) 512 23 (fl 64 F)).alloc (.cells (zb 512 (fl 64 G)) 23)); simpa using this
 have B2 : Blk W1 (w.heap.size + 1 + 1) 512 23 (fl 64 G) := by subst hwo; have := (Blk.new ((w.alloc (.cells (zb 64 (m)) 22)).alloc (.cells (zb 512 (fl 64 F)) 23)) 512 23 (fl 64 G)); simpa using this
 have hb : Below w.heap.size w W1 := by subst hwo; exact ((((Below.refl _ _).alloc (Nat.le_refl _) _).alloc (by simp) _).alloc (by simp; omega) _)
 rw [← hwo]
 clear hwo
 have hne2 : (((drV p m F G).2) != ((drV p m F G).2)) = false := by simp
 have lt_B0 : (w.heap.size) < W1.heap.size := B0.lt
 have lt_B1 : (w.heap.size + 1) < W1.heap.size := B1.lt
 have lt_B2 : (w.heap.size + 1 + 1) < W1.heap.size := B2.lt
 refine zq Try.mixed (by kernel_rfl) (by kernel_rfl) (fun v => by (simp only [frL, Act.put, pA, pB, pC, Nat.reduceAdd, Nat.zero_add]; exact rfl))
  (fun L v W2 => Below W1.heap.size W1 W2 ∧ (L 12 = true → AF (v 12) W2 W1.heap.size 512 26) ∧ (L 13 = true → AF (v 13) W2 W1.heap.size 512 26) ∧ (L 14 = true → PF (v 12) W2 W1.heap.size 512 26 (fl 64 ((drV p m F G).1.1))) ∧ (L 15 = true → PF (v 13) W2 W1.heap.size 512 26 (fl 64 ((drV p m F G).1.2))) ∧ (L 12 = true → L 13 = true → v 12 ≠ v 13) ∧ VF L v [some (.int .i64 p), some (.agg (zb 64 (m))), some (.agg (zb 64 (m))), some (.agg (zb 512 (fl 64 F))), some (.agg (zb 512 (fl 64 F))), some (.agg (zb 512 (fl 64 G))), some (.agg (zb 512 (fl 64 G))), some (.tuple #[(.agg (zb 512 (fl 64 ((drV p m F G).1.1)))), (.agg (zb 512 (fl 64 ((drV p m F G).1.2)))), (.int .i64 ((drV p m F G).2))]), some (.tuple #[(.agg (zb 512 (fl 64 ((drV p m F G).1.1)))), (.agg (zb 512 (fl 64 ((drV p m F G).1.2)))), (.int .i64 ((drV p m F G).2))]), some (.agg (zb 512 (fl 64 ((drV p m F G).1.1)))), some (.agg (zb 512 (fl 64 ((drV p m F G).1.2)))), some (.int .i64 ((drV p m F G).2)), none, none, none, none, some (.int .i64 ((drV p m F G).2))]) ?_ ?_ ?_
 · intro v hv0
   exact ⟨(Below.refl _ W1).drew, (fun h => by cases h), (fun h => by cases h), (fun h => by cases h), (fun h => by cases h), (fun h => by cases h), VF.start⟩
 · refine (.cons rfl ?_ (.cons rfl ?_ (.cons rfl ?_ (.cons rfl ?_ (.cons rfl ?_ (.cons rfl ?_ (.cons rfl ?_ (.cons rfl ?_ (.cons rfl ?_ (.cons rfl ?_ (.cons rfl ?_ (.cons rfl ?_ (.cons rfl ?_ (.cons rfl ?_ (.cons rfl ?_ (.cons rfl ?_ (.cons rfl ?_ (.nil _))))))))))))))))))
   all_goals intro L v W2 hd hn ⟨hY, h12, h13, h14, h15, d12_13, V⟩ K hK
   · go_wp2_with fail
     exact hK _ (.int .i64 p) _ (by simp only [Act.put, pA, pB, pC ]) ⟨hY, h12, h13, h14, h15, d12_13, V.step 0 rfl⟩
   · refine zlc (B0.zw hY) Try.underlying22 Try.size22 ?_
     exact hK _ _ _ rfl ⟨hY, h12, h13, h14, h15, d12_13, V.step 1 rfl⟩
   · have e1 := V.at (zdq hd 1 rfl) rfl
     go_wp2_with (go_at_call 28; refine (toPoly_any m hm _).mono ?_; rintro e wy ⟨rfl, hy⟩)
     exact hK _ (.agg (zb 64 (m))) _ (by simp only [Act.put, pA, pB, pC, e1]) ⟨hY.trans (hy.mono hY.size), (fun h => (h12 h).below hy), (fun h => (h13 h).below hy), (fun h => (h14 h).below hy), (fun h => (h15 h).below hy), d12_13, V.step 2 rfl⟩
   · refine zlc (B1.zw hY) Try.underlying23 Try.size23 ?_
     exact hK _ _ _ rfl ⟨hY, h12, h13, h14, h15, d12_13, V.step 3 rfl⟩
   · have e3 := V.at (zdq hd 3 rfl) rfl
     go_wp2_with (go_at_call 29; refine (toSkew_any F hF _).mono ?_; rintro e wy ⟨rfl, hy⟩)
     exact hK _ (.agg (zb 512 (fl 64 F))) _ (by simp only [Act.put, pA, pB, pC, e3]) ⟨hY.trans (hy.mono hY.size), (fun h => (h12 h).below hy), (fun h => (h13 h).below hy), (fun h => (h14 h).below hy), (fun h => (h15 h).below hy), d12_13, V.step 4 rfl⟩
   · refine zlc (B2.zw hY) Try.underlying23 Try.size23 ?_
     exact hK _ _ _ rfl ⟨hY, h12, h13, h14, h15, d12_13, V.step 5 rfl⟩
   · have e5 := V.at (zdq hd 5 rfl) rfl
     go_wp2_with (go_at_call 29; refine (toSkew_any G hG _).mono ?_; rintro e wy ⟨rfl, hy⟩)
     exact hK _ (.agg (zb 512 (fl 64 G))) _ (by simp only [Act.put, pA, pB, pC, e5]) ⟨hY.trans (hy.mono hY.size), (fun h => (h12 h).below hy), (fun h => (h13 h).below hy), (fun h => (h14 h).below hy), (fun h => (h15 h).below hy), d12_13, V.step 6 rfl⟩
   · have e0 := V.at (zdq hd 0 rfl) rfl
     have e2 := V.at (zdq hd 2 rfl) rfl
     have e4 := V.at (zdq hd 4 rfl) rfl
     have e6 := V.at (zdq hd 6 rfl) rfl
     go_wp2_with (go_at_call 34; refine (spec_DivideRight_any p m F G hm hF hG _).mono ?_; rintro e wy ⟨rfl, hy⟩)
     exact hK _ (.tuple #[(.agg (zb 512 (fl 64 ((drV p m F G).1.1)))), (.agg (zb 512 (fl 64 ((drV p m F G).1.2)))), (.int .i64 ((drV p m F G).2))]) _ (by simp only [Act.put, pA, pB, pC, e0, e2, e4, e6]) ⟨hY.trans (hy.mono hY.size), (fun h => (h12 h).below hy), (fun h => (h13 h).below hy), (fun h => (h14 h).below hy), (fun h => (h15 h).below hy), d12_13, V.step 7 rfl⟩
   · have e7 := V.at (zdq hd 7 rfl) rfl
     go_wp2_with fail
     exact hK _ (.tuple #[(.agg (zb 512 (fl 64 ((drV p m F G).1.1)))), (.agg (zb 512 (fl 64 ((drV p m F G).1.2)))), (.int .i64 ((drV p m F G).2))]) _ (by simp only [Act.put, pA, pB, pC, e7]) ⟨hY, h12, h13, h14, h15, d12_13, V.step 8 rfl⟩
   · have e8 := V.at (zdq hd 8 rfl) rfl
     go_wp2_with fail
     exact hK _ (.agg (zb 512 (fl 64 ((drV p m F G).1.1)))) _ (by simp only [Act.put, pA, pB, pC, e8]) ⟨hY, h12, h13, h14, h15, d12_13, V.step 9 rfl⟩
   · have e8 := V.at (zdq hd 8 rfl) rfl
     go_wp2_with fail
     exact hK _ (.agg (zb 512 (fl 64 ((drV p m F G).1.2)))) _ (by simp only [Act.put, pA, pB, pC, e8]) ⟨hY, h12, h13, h14, h15, d12_13, V.step 10 rfl⟩
   · have e8 := V.at (zdq hd 8 rfl) rfl
     go_wp2_with fail
     exact hK _ (.int .i64 ((drV p m F G).2)) _ (by simp only [Act.put, pA, pB, pC, e8]) ⟨hY, h12, h13, h14, h15, d12_13, V.step 11 rfl⟩
   · go_wp2_with fail
     rw [← zero512]
     exact hK _ (.pointer (some ⟨W2.heap.size, 0, none⟩)) _ (by simp only [Act.put, pA, pB, pC ]) ⟨hY.alloc hY.size _, (fun _ => (PF.new W2 512 26 _ hY.size).af), (fun h => (h13 h).below (zal _ _)), (fun h => absurd rfl (hn 14 _ rfl h ⟨12, .data⟩ (by simp) rfl)), (fun h => (h15 h).below (zal _ _)), (fun h g1 => Ne.symm ((h13 g1).ne_new)), V.skip 12 rfl⟩
   · go_wp2_with fail
     rw [← zero512]
     exact hK _ (.pointer (some ⟨W2.heap.size, 0, none⟩)) _ (by simp only [Act.put, pA, pB, pC ]) ⟨hY.alloc hY.size _, (fun h => (h12 h).below (zal _ _)), (fun _ => (PF.new W2 512 26 _ hY.size).af), (fun h => (h14 h).below (zal _ _)), (fun h => absurd rfl (hn 15 _ rfl h ⟨13, .data⟩ (by simp) rfl)), (fun h g1 => (h12 h).ne_new), V.skip 13 rfl⟩
   · have e9 := V.at (zdq hd 9 rfl) rfl
     obtain ⟨gz, b, ea, hN, hk⟩ := (h12 (zdq hd 12 rfl)).out
     refine zsb 26 _ _ rfl b 512 (fl 64 ((drV p m F G).1.1)) ea e9 26 gz hk Try.size26 ?_
     exact hK _ undef _ rfl ⟨zr hY hN _, (fun h => (h12 h).row hk), (fun h => (h13 h).row hk), (fun _ => by rw [show updV v 14 undef 12 = v 12 from rfl, ea]; exact PF.row hk hN _), (fun h => (h15 h).rowOther (by rw [← ea]; exact (Ne.symm (d12_13 (zdq hd 12 rfl) (zdq hd 13 rfl))))), d12_13, V.skip 14 rfl⟩
   · have e10 := V.at (zdq hd 10 rfl) rfl
     obtain ⟨gz, b, ea, hN, hk⟩ := (h13 (zdq hd 13 rfl)).out
     refine zsb 26 _ _ rfl b 512 (fl 64 ((drV p m F G).1.2)) ea e10 26 gz hk Try.size26 ?_
     exact hK _ undef _ rfl ⟨zr hY hN _, (fun h => (h12 h).row hk), (fun h => (h13 h).row hk), (fun h => (h14 h).rowOther (by rw [← ea]; exact (d12_13 (zdq hd 12 rfl) (zdq hd 13 rfl)))), (fun _ => by rw [show updV v 15 undef 13 = v 13 from rfl, ea]; exact PF.row hk hN _), d12_13, V.skip 15 rfl⟩
   have e11 := V.at (zdq hd 11 rfl) rfl
   go_wp2_with fail
   exact hK _ (.int .i64 ((drV p m F G).2)) _ (by simp only [Act.put, pA, pB, pC, e11]) ⟨hY, h12, h13, h14, h15, d12_13, V.step 16 rfl⟩
 intro L v W2 hL ⟨hY, h12, h13, h14, h15, d12_13, V⟩
 obtain ⟨k1_12, e12, hNk1_12, hk1_12⟩ := (h14 (hL 14 (by decide))).out
 obtain ⟨k1_13, e13, hNk1_13, hk1_13⟩ := (h15 (hL 15 (by decide))).out
 have n12_13 := d12_13 (hL 12 (by decide)) (hL 13 (by decide))
 have e0 := V.at (hL 0 (by decide)) rfl
 have e1 := V.at (hL 1 (by decide)) rfl
 have e2 := V.at (hL 2 (by decide)) rfl
 have e3 := V.at (hL 3 (by decide)) rfl
 have e4 := V.at (hL 4 (by decide)) rfl
 have e5 := V.at (hL 5 (by decide)) rfl
 have e6 := V.at (hL 6 (by decide)) rfl
 have e7 := V.at (hL 7 (by decide)) rfl
 have e8 := V.at (hL 8 (by decide)) rfl
 have e9 := V.at (hL 9 (by decide)) rfl
 have e10 := V.at (hL 10 (by decide)) rfl
 have e11 := V.at (hL 11 (by decide)) rfl
 have e16 := V.at (hL 16 (by decide)) rfl
 clear hL h12 h13 h14 h15 d12_13 V
 replace B0 := B0.zw hY
 replace B1 := B1.zw hY
 replace B2 := B2.zw hY
 replace hb := hb.trans (hY.mono hb.size)
 clear hY
 rw [e12, e13] at n12_13
 have mk1_12_13 : k1_12 ≠ k1_13 := fun h => n12_13 (by rw [h])
 clear n12_13
 simp only [Exit.then, e12, e13, e0, e1, e2, e3, e4, e5, e6, e7, e8, e9, e10, e11, e16]
 clear e12 e13 e0 e1 e2 e3 e4 e5 e6 e7 e8 e9 e10 e11 e16
 have B3 := hk1_12
 clear hk1_12
 have zk1_12_0 : w.heap.size < k1_12 := by omega
 have zk1_12_1 : w.heap.size + 1 < k1_12 := by omega
 have zk1_12_2 : w.heap.size + 1 + 1 < k1_12 := by omega
 have B4 := hk1_13
 clear hk1_13
 have zk1_13_0 : w.heap.size < k1_13 := by omega
 have zk1_13_1 : w.heap.size + 1 < k1_13 := by omega
 have zk1_13_2 : w.heap.size + 1 + 1 < k1_13 := by omega
 clear lt_B0 lt_B1 lt_B2
 go_upto_region 2 with (fail)
 have lt_B0 : (w.heap.size) < W2.heap.size := B0.lt
 have lt_B1 : (w.heap.size + 1) < W2.heap.size := B1.lt
 have lt_B2 : (w.heap.size + 1 + 1) < W2.heap.size := B2.lt
 have lt_B3 : (k1_12) < W2.heap.size := B3.lt
 have lt_B4 : (k1_13) < W2.heap.size := B4.lt
 refine zq Try.mixed (by kernel_rfl) (by kernel_rfl) (fun v => by (simp only [frL, Act.put, pA, pB, pC, Nat.reduceAdd, Nat.zero_add]; exact rfl))
  (fun L v W3 => Below W2.heap.size W2 W3 ∧ (L 12 = true → AF (v 12) W3 W2.heap.size 512 26) ∧ (L 13 = true → AF (v 13) W3 W2.heap.size 512 26) ∧ (L 14 = true → PF (v 12) W3 W2.heap.size 512 26 (fl 64 ((drV p m F G).1.1))) ∧ (L 15 = true → PF (v 13) W3 W2.heap.size 512 26 (fl 64 ((drV p m F G).1.2))) ∧ (L 12 = true → L 13 = true → v 12 ≠ v 13) ∧ VF L v [some (.int .i64 p), some (.agg (zb 64 (m))), some (.agg (zb 64 (m))), some (.agg (zb 512 (fl 64 F))), some (.agg (zb 512 (fl 64 F))), some (.agg (zb 512 (fl 64 G))), some (.agg (zb 512 (fl 64 G))), some (.tuple #[(.agg (zb 512 (fl 64 ((drV p m F G).1.1)))), (.agg (zb 512 (fl 64 ((drV p m F G).1.2)))), (.int .i64 ((drV p m F G).2))]), some (.tuple #[(.agg (zb 512 (fl 64 ((drV p m F G).1.1)))), (.agg (zb 512 (fl 64 ((drV p m F G).1.2)))), (.int .i64 ((drV p m F G).2))]), some (.agg (zb 512 (fl 64 ((drV p m F G).1.1)))), some (.agg (zb 512 (fl 64 ((drV p m F G).1.2)))), some (.int .i64 ((drV p m F G).2)), none, none, none, none, some (.int .i64 ((drV p m F G).2))]) ?_ ?_ ?_
 · intro v hv0
   exact ⟨(Below.refl _ W2).drew, (fun h => by cases h), (fun h => by cases h), (fun h => by cases h), (fun h => by cases h), (fun h => by cases h), VF.start⟩
 · refine (.cons rfl ?_ (.cons rfl ?_ (.cons rfl ?_ (.cons rfl ?_ (.cons rfl ?_ (.cons rfl ?_ (.cons rfl ?_ (.cons rfl ?_ (.cons rfl ?_ (.cons rfl ?_ (.cons rfl ?_ (.cons rfl ?_ (.cons rfl ?_ (.cons rfl ?_ (.cons rfl ?_ (.cons rfl ?_ (.cons rfl ?_ (.nil _))))))))))))))))))
   all_goals intro L v W3 hd hn ⟨hY, h12, h13, h14, h15, d12_13, V⟩ K hK
   · go_wp2_with fail
     exact hK _ (.int .i64 p) _ (by simp only [Act.put, pA, pB, pC ]) ⟨hY, h12, h13, h14, h15, d12_13, V.step 0 rfl⟩
   · refine zlc (B0.zw hY) Try.underlying22 Try.size22 ?_
     exact hK _ _ _ rfl ⟨hY, h12, h13, h14, h15, d12_13, V.step 1 rfl⟩
   · have e1 := V.at (zdq hd 1 rfl) rfl
     go_wp2_with (go_at_call 28; refine (toPoly_any m hm _).mono ?_; rintro e wy ⟨rfl, hy⟩)
     exact hK _ (.agg (zb 64 (m))) _ (by simp only [Act.put, pA, pB, pC, e1]) ⟨hY.trans (hy.mono hY.size), (fun h => (h12 h).below hy), (fun h => (h13 h).below hy), (fun h => (h14 h).below hy), (fun h => (h15 h).below hy), d12_13, V.step 2 rfl⟩
   · refine zlc (B1.zw hY) Try.underlying23 Try.size23 ?_
     exact hK _ _ _ rfl ⟨hY, h12, h13, h14, h15, d12_13, V.step 3 rfl⟩
   · have e3 := V.at (zdq hd 3 rfl) rfl
     go_wp2_with (go_at_call 29; refine (toSkew_any F hF _).mono ?_; rintro e wy ⟨rfl, hy⟩)
     exact hK _ (.agg (zb 512 (fl 64 F))) _ (by simp only [Act.put, pA, pB, pC, e3]) ⟨hY.trans (hy.mono hY.size), (fun h => (h12 h).below hy), (fun h => (h13 h).below hy), (fun h => (h14 h).below hy), (fun h => (h15 h).below hy), d12_13, V.step 4 rfl⟩
   · refine zlc (B2.zw hY) Try.underlying23 Try.size23 ?_
     exact hK _ _ _ rfl ⟨hY, h12, h13, h14, h15, d12_13, V.step 5 rfl⟩
   · have e5 := V.at (zdq hd 5 rfl) rfl
     go_wp2_with (go_at_call 29; refine (toSkew_any G hG _).mono ?_; rintro e wy ⟨rfl, hy⟩)
     exact hK _ (.agg (zb 512 (fl 64 G))) _ (by simp only [Act.put, pA, pB, pC, e5]) ⟨hY.trans (hy.mono hY.size), (fun h => (h12 h).below hy), (fun h => (h13 h).below hy), (fun h => (h14 h).below hy), (fun h => (h15 h).below hy), d12_13, V.step 6 rfl⟩
   · have e0 := V.at (zdq hd 0 rfl) rfl
     have e2 := V.at (zdq hd 2 rfl) rfl
     have e4 := V.at (zdq hd 4 rfl) rfl
     have e6 := V.at (zdq hd 6 rfl) rfl
     go_wp2_with (go_at_call 35; refine (impl_DivideRight_any p m F G hm hF hG _).mono ?_; rintro e wy ⟨rfl, hy⟩)
     exact hK _ (.tuple #[(.agg (zb 512 (fl 64 ((drV p m F G).1.1)))), (.agg (zb 512 (fl 64 ((drV p m F G).1.2)))), (.int .i64 ((drV p m F G).2))]) _ (by simp only [Act.put, pA, pB, pC, e0, e2, e4, e6]) ⟨hY.trans (hy.mono hY.size), (fun h => (h12 h).below hy), (fun h => (h13 h).below hy), (fun h => (h14 h).below hy), (fun h => (h15 h).below hy), d12_13, V.step 7 rfl⟩
   · have e7 := V.at (zdq hd 7 rfl) rfl
     go_wp2_with fail
     exact hK _ (.tuple #[(.agg (zb 512 (fl 64 ((drV p m F G).1.1)))), (.agg (zb 512 (fl 64 ((drV p m F G).1.2)))), (.int .i64 ((drV p m F G).2))]) _ (by simp only [Act.put, pA, pB, pC, e7]) ⟨hY, h12, h13, h14, h15, d12_13, V.step 8 rfl⟩
   · have e8 := V.at (zdq hd 8 rfl) rfl
     go_wp2_with fail
     exact hK _ (.agg (zb 512 (fl 64 ((drV p m F G).1.1)))) _ (by simp only [Act.put, pA, pB, pC, e8]) ⟨hY, h12, h13, h14, h15, d12_13, V.step 9 rfl⟩
   · have e8 := V.at (zdq hd 8 rfl) rfl
     go_wp2_with fail
     exact hK _ (.agg (zb 512 (fl 64 ((drV p m F G).1.2)))) _ (by simp only [Act.put, pA, pB, pC, e8]) ⟨hY, h12, h13, h14, h15, d12_13, V.step 10 rfl⟩
   · have e8 := V.at (zdq hd 8 rfl) rfl
     go_wp2_with fail
     exact hK _ (.int .i64 ((drV p m F G).2)) _ (by simp only [Act.put, pA, pB, pC, e8]) ⟨hY, h12, h13, h14, h15, d12_13, V.step 11 rfl⟩
   · go_wp2_with fail
     rw [← zero512]
     exact hK _ (.pointer (some ⟨W3.heap.size, 0, none⟩)) _ (by simp only [Act.put, pA, pB, pC ]) ⟨hY.alloc hY.size _, (fun _ => (PF.new W3 512 26 _ hY.size).af), (fun h => (h13 h).below (zal _ _)), (fun h => absurd rfl (hn 14 _ rfl h ⟨12, .data⟩ (by simp) rfl)), (fun h => (h15 h).below (zal _ _)), (fun h g1 => Ne.symm ((h13 g1).ne_new)), V.skip 12 rfl⟩
   · go_wp2_with fail
     rw [← zero512]
     exact hK _ (.pointer (some ⟨W3.heap.size, 0, none⟩)) _ (by simp only [Act.put, pA, pB, pC ]) ⟨hY.alloc hY.size _, (fun h => (h12 h).below (zal _ _)), (fun _ => (PF.new W3 512 26 _ hY.size).af), (fun h => (h14 h).below (zal _ _)), (fun h => absurd rfl (hn 15 _ rfl h ⟨13, .data⟩ (by simp) rfl)), (fun h g1 => (h12 h).ne_new), V.skip 13 rfl⟩
   · have e9 := V.at (zdq hd 9 rfl) rfl
     obtain ⟨gz, b, ea, hN, hk⟩ := (h12 (zdq hd 12 rfl)).out
     refine zsb 26 _ _ rfl b 512 (fl 64 ((drV p m F G).1.1)) ea e9 26 gz hk Try.size26 ?_
     exact hK _ undef _ rfl ⟨zr hY hN _, (fun h => (h12 h).row hk), (fun h => (h13 h).row hk), (fun _ => by rw [show updV v 14 undef 12 = v 12 from rfl, ea]; exact PF.row hk hN _), (fun h => (h15 h).rowOther (by rw [← ea]; exact (Ne.symm (d12_13 (zdq hd 12 rfl) (zdq hd 13 rfl))))), d12_13, V.skip 14 rfl⟩
   · have e10 := V.at (zdq hd 10 rfl) rfl
     obtain ⟨gz, b, ea, hN, hk⟩ := (h13 (zdq hd 13 rfl)).out
     refine zsb 26 _ _ rfl b 512 (fl 64 ((drV p m F G).1.2)) ea e10 26 gz hk Try.size26 ?_
     exact hK _ undef _ rfl ⟨zr hY hN _, (fun h => (h12 h).row hk), (fun h => (h13 h).row hk), (fun h => (h14 h).rowOther (by rw [← ea]; exact (d12_13 (zdq hd 12 rfl) (zdq hd 13 rfl)))), (fun _ => by rw [show updV v 15 undef 13 = v 13 from rfl, ea]; exact PF.row hk hN _), d12_13, V.skip 15 rfl⟩
   have e11 := V.at (zdq hd 11 rfl) rfl
   go_wp2_with fail
   exact hK _ (.int .i64 ((drV p m F G).2)) _ (by simp only [Act.put, pA, pB, pC, e11]) ⟨hY, h12, h13, h14, h15, d12_13, V.step 16 rfl⟩
 intro L v W3 hL ⟨hY, h12, h13, h14, h15, d12_13, V⟩
 obtain ⟨k2_12, e12, hNk2_12, hk2_12⟩ := (h14 (hL 14 (by decide))).out
 obtain ⟨k2_13, e13, hNk2_13, hk2_13⟩ := (h15 (hL 15 (by decide))).out
 have n12_13 := d12_13 (hL 12 (by decide)) (hL 13 (by decide))
 have e0 := V.at (hL 0 (by decide)) rfl
 have e1 := V.at (hL 1 (by decide)) rfl
 have e2 := V.at (hL 2 (by decide)) rfl
 have e3 := V.at (hL 3 (by decide)) rfl
 have e4 := V.at (hL 4 (by decide)) rfl
 have e5 := V.at (hL 5 (by decide)) rfl
 have e6 := V.at (hL 6 (by decide)) rfl
 have e7 := V.at (hL 7 (by decide)) rfl
 have e8 := V.at (hL 8 (by decide)) rfl
 have e9 := V.at (hL 9 (by decide)) rfl
 have e10 := V.at (hL 10 (by decide)) rfl
 have e11 := V.at (hL 11 (by decide)) rfl
 have e16 := V.at (hL 16 (by decide)) rfl
 clear hL h12 h13 h14 h15 d12_13 V
 replace B0 := B0.zw hY
 replace B1 := B1.zw hY
 replace B2 := B2.zw hY
 replace B3 := B3.zw hY
 replace B4 := B4.zw hY
 replace hb := hb.trans (hY.mono hb.size)
 clear hY
 rw [e12, e13] at n12_13
 have mk2_12_13 : k2_12 ≠ k2_13 := fun h => n12_13 (by rw [h])
 clear n12_13
 simp only [Exit.then, e12, e13, e0, e1, e2, e3, e4, e5, e6, e7, e8, e9, e10, e11, e16]
 clear e12 e13 e0 e1 e2 e3 e4 e5 e6 e7 e8 e9 e10 e11 e16
 have B5 := hk2_12
 clear hk2_12
 have zk2_12_0 : w.heap.size < k2_12 := by omega
 have zk2_12_1 : w.heap.size + 1 < k2_12 := by omega
 have zk2_12_2 : w.heap.size + 1 + 1 < k2_12 := by omega
 have zk2_12_3 : k1_12 < k2_12 := by omega
 have zk2_12_4 : k1_13 < k2_12 := by omega
 have B6 := hk2_13
 clear hk2_13
 have zk2_13_0 : w.heap.size < k2_13 := by omega
 have zk2_13_1 : w.heap.size + 1 < k2_13 := by omega
 have zk2_13_2 : w.heap.size + 1 + 1 < k2_13 := by omega
 have zk2_13_3 : k1_12 < k2_13 := by omega
 have zk2_13_4 : k1_13 < k2_13 := by omega
 clear lt_B0 lt_B1 lt_B2 lt_B3 lt_B4
 go_upto_region 3 with (fail)
 go_wp2_with (first | (refine zla (.tmp 12) B5 Try.underlying26 Try.size26 ?_) | (refine zla (.tmp 9) B3 Try.underlying26 Try.size26 ?_) | (go_at_call 31; refine (eqSkew_same _ _ (fun _ _ _ _ => rfl) _).mono ?_; rintro e W4 ⟨rfl, hW4⟩; replace B0 := B0.zw hW4; replace B1 := B1.zw hW4; replace B2 := B2.zw hW4; replace B3 := B3.zw hW4; replace B4 := B4.zw hW4; replace B5 := B5.zw hW4; replace B6 := B6.zw hW4; replace hb := (hb).trans (hW4.mono (hb).size)) | (refine zlg rfl 26 (.tmp 13) rfl _ rfl 512 26 _ (B6) _ Try.underlying26 rfl Try.size26 ?_) | (refine zlg rfl 26 (.tmp 10) rfl _ rfl 512 26 _ (B4) _ Try.underlying26 rfl Try.size26 ?_) | (go_at_call 31; refine (eqSkew_same _ _ (fun _ _ _ _ => rfl) _).mono ?_; rintro e W5 ⟨rfl, hW5⟩; replace B0 := B0.zw hW5; replace B1 := B1.zw hW5; replace B2 := B2.zw hW5; replace B3 := B3.zw hW5; replace B4 := B4.zw hW5; replace B5 := B5.zw hW5; replace B6 := B6.zw hW5; replace hb := (hb).trans (hW5.mono (hb).size)))
 go_ret
 exact ⟨rfl, hb⟩
end Go.Proofs.Yteloknnooebabaa
