/-
  What the rows of this claim rest on: arrays of bytes, walks of the functions, plain mathematics.
-/
import Derived.Test.YteloknnooebabaaZm9
import Derived.WalkKit
import Derived.WalkSpells
import Derived.WalkLawsBesides
import Derived.Lib.Hide
import Derived.Laws.Rows
import Derived.Laws.CopyOwn
import Derived.Deep.QuietTactic
import Derived.Deep.WholeRow
import Derived.Deep.Draws
import Derived.Deep.MidRow
import Derived.Deep.CutRange
import Derived.Deep.DeepCutAuto
import Derived.Deep.RegionHeld3
import Derived.BigQuiet
import Derived.BigRegion
import Derived.Test.YteloknnooebabaaRows
import Derived.Great.BuildSlice
import Derived.Laws.Tables
import Derived.Laws.StructEq
import Derived.ScopeJumps
import Derived.OwnWalk
import Derived.RangeFuncNested
import Derived.RangeFuncBound
import Derived.RangeFuncCalls
import Derived.RangeFuncLeaves
import Derived.Shelf.Abstract
import Derived.Shelf.RegionOpen
import Derived.OwnWalkIn
import Derived.TacticsInMore
import Derived.LoopNIn
import Derived.LoopIn
import Derived.Deep.CutBlock
import Derived.Maps.OwnOps
import Derived.DeepKeys4
import Derived.Carry
import Derived.Test.YteloknnooebabaaProg
import Derived.Handy
import Derived.Laws.MakeOwn
set_option maxRecDepth 100000
set_option maxHeartbeats 9000000
set_option linter.unusedVariables false
set_option linter.unusedSimpArgs false
namespace Go.Proofs.Yteloknnooebabaa
open Go Go.RowKit
attribute [local irreducible] deg addK strP frI frN mmP pmP resP
theorem l03Times_no (p : Int) (m : Nat → Nat) (F G : Nat → Nat → Nat) (w : World) (hs : 7 < skD F + skD G) :
 Calls Try.prog 93 #[.int .i64 p, .agg (zb 64 m), .agg (zb 512 (fl 64 F)), .agg (zb 512 (fl 64 G))] w fun e w' => e = .returned (.tuple #[.agg (zb 512 (fl 64 fun _ _ => 0)), .bool false]) ∧ Below w.heap.size w w' := by
 obtain ⟨a1, a2⟩ := zsd F
 obtain ⟨b1, b2⟩ := zsd G
 have hn1 : ¬ skD F < 0 := by omega
 have hn2 : ¬ skD G < 0 := by omega
 have hn3 : skD F + skD G > 7 := by omega
 go_enter Try.func93, Try.ntmps93
 go_upto_region 1 with (fail)
 rw [← zero512]
 obtain ⟨W1, hwo⟩ : ∃ v : World, v = ((((w.alloc (.cells (zb 64 (m)) 24)).alloc (.cells (zb 512 (fl 64 F)) 26)).alloc (.cells (zb 512 (fl 64 G)) 26)).alloc (.cells (zb 512 (fl 64 (fun _ _ => 0))) 26)) := ⟨_, rfl⟩
 have B0 : Blk W1 (w.heap.size) 64 24 (m) := by subst hwo; have := ((((Blk.new w 64 24 (m)).alloc (.cells (zb 512 (fl 64 F)) 26)).alloc (.cells (zb 512 (fl 64 G)) 26)).alloc (.cells (zb 512 (fl 64 (fun _ _ => 0))) 26)); simpa using this
 have B1 : Blk W1 (w.heap.size + 1) 512 26 (fl 64 F) := by subst hwo; have := (((Blk.new (w.alloc (.cells (zb 64 (m)) 24)) 512 26 (fl 64 F)).alloc (.cells (zb 512 (fl 64 G)) 26)).alloc (.cells (zb 512 (fl 64 (fun _ _ => 0))) 26)); simpa using this
 have B2 : Blk W1 (w.heap.size + 1 + 1) 512 26 (fl 64 G) := by subst hwo; have := ((Blk.new ((w.alloc (.cells (zb 64 (m)) 24)).alloc (.cells (zb 512 (fl 64 F)) 26)) 512 26 (fl 64 G)).alloc (.cells (zb 512 (fl 64 (fun _ _ => 0))) 26)); simpa using this
 have B3 : Blk W1 (w.heap.size + 1 + 1 + 1) 512 26 (fl 64 (fun _ _ => 0)) := by subst hwo; have := (Blk.new (((w.alloc (.cells (zb 64 (m)) 24)).alloc (.cells (zb 512 (fl 64 F)) 26)).alloc (.cells (zb 512 (fl 64 G)) 26)) 512 26 (fl 64 (fun _ _ => 0))); simpa using this
 have hb : Below w.heap.size w W1 := by subst hwo; exact (((((Below.refl _ _).alloc (Nat.le_refl _) _).alloc (by simp) _).alloc (by simp; omega) _).alloc (by simp; omega) _)
 rw [← hwo]
 clear hwo
 have lt_B0 : (w.heap.size) < W1.heap.size := B0.lt
 have lt_B1 : (w.heap.size + 1) < W1.heap.size := B1.lt
 have lt_B2 : (w.heap.size + 1 + 1) < W1.heap.size := B2.lt
 have lt_B3 : (w.heap.size + 1 + 1 + 1) < W1.heap.size := B3.lt
 refine zq Try.mixed (by kernel_rfl) (by kernel_rfl) (fun v => by (simp only [frL, Act.put, pA, pB, pC, Nat.reduceAdd, Nat.zero_add]; exact rfl))
  (fun L v W2 => Below W1.heap.size W1 W2 ∧ (L 5 = true → AF (v 5) W2 W1.heap.size 512 26) ∧ (L 8 = true → PF (v 5) W2 W1.heap.size 512 26 (fl 64 (fun _ _ => 0))) ∧ VF L v [some (.agg (zb 512 (fl 64 F))), some (.int .i64 (skD F)), some (.agg (zb 512 (fl 64 G))), some (.int .i64 (skD G)), some (.agg (zb 512 (fl 64 (fun _ _ => 0)))), none, some (.int .i64 (skD F)), some (.int .i64 (skD G)), none]) ?_ ?_ ?_
 · intro v hv0
   exact ⟨(Below.refl _ W1).drew, (fun h => by cases h), (fun h => by cases h), VF.start⟩
 · refine (.cons rfl ?_ (.cons rfl ?_ (.cons rfl ?_ (.cons rfl ?_ (.cons rfl ?_ (.cons rfl ?_ (.cons rfl ?_ (.cons rfl ?_ (.cons rfl ?_ (.nil _))))))))))
   all_goals intro L v W2 hd hn ⟨hY, h5, h8, V⟩ K hK
   · refine zlc (B1.zw hY) Try.underlying26 Try.size26 ?_
     exact hK _ _ _ rfl ⟨hY, h5, h8, V.step 0 rfl⟩
   · have e0 := V.at (zdq hd 0 rfl) rfl
     go_wp2_with (go_at_call 97; refine (l03Deg_any F _).mono ?_; rintro e wy ⟨rfl, hy⟩)
     exact hK _ (.int .i64 (skD F)) _ (by simp only [Act.put, pA, pB, pC, e0]) ⟨hY.trans (hy.mono hY.size), (fun h => (h5 h).below hy), (fun h => (h8 h).below hy), V.step 1 rfl⟩
   · refine zlc (B2.zw hY) Try.underlying26 Try.size26 ?_
     exact hK _ _ _ rfl ⟨hY, h5, h8, V.step 2 rfl⟩
   · have e2 := V.at (zdq hd 2 rfl) rfl
     go_wp2_with (go_at_call 97; refine (l03Deg_any G _).mono ?_; rintro e wy ⟨rfl, hy⟩)
     exact hK _ (.int .i64 (skD G)) _ (by simp only [Act.put, pA, pB, pC, e2]) ⟨hY.trans (hy.mono hY.size), (fun h => (h5 h).below hy), (fun h => (h8 h).below hy), V.step 3 rfl⟩
   · go_wp2_with fail
     rw [← zero512]
     exact hK _ (.agg (zb 512 (fl 64 (fun _ _ => 0)))) _ (by simp only [Act.put, pA, pB, pC ]) ⟨hY, h5, h8, V.step 4 rfl⟩
   · go_wp2_with fail
     rw [← zero512]
     exact hK _ (.pointer (some ⟨W2.heap.size, 0, none⟩)) _ (by simp only [Act.put, pA, pB, pC ]) ⟨hY.alloc hY.size _, (fun _ => (PF.new W2 512 26 _ hY.size).af), (fun h => absurd rfl (hn 8 _ rfl h ⟨5, .data⟩ (by simp) rfl)), V.skip 5 rfl⟩
   · have e1 := V.at (zdq hd 1 rfl) rfl
     go_wp2_with fail
     exact hK _ (.int .i64 (skD F)) _ (by simp only [Act.put, pA, pB, pC, e1]) ⟨hY, h5, h8, V.step 6 rfl⟩
   · have e3 := V.at (zdq hd 3 rfl) rfl
     go_wp2_with fail
     exact hK _ (.int .i64 (skD G)) _ (by simp only [Act.put, pA, pB, pC, e3]) ⟨hY, h5, h8, V.step 7 rfl⟩
   have e4 := V.at (zdq hd 4 rfl) rfl
   obtain ⟨gz, b, ea, hN, hk⟩ := (h5 (zdq hd 5 rfl)).out
   refine zsb 26 _ _ rfl b 512 (fl 64 (fun _ _ => 0)) ea e4 26 gz hk Try.size26 ?_
   exact hK _ undef _ rfl ⟨zr hY hN _, (fun h => (h5 h).row hk), (fun _ => by rw [show updV v 8 undef 5 = v 5 from rfl, ea]; exact PF.row hk hN _), V.skip 8 rfl⟩
 intro L v W2 hL ⟨hY, h5, h8, V⟩
 obtain ⟨k1_5, e5, hNk1_5, hk1_5⟩ := (h8 (hL 8 (by decide))).out
 have e0 := V.at (hL 0 (by decide)) rfl
 have e1 := V.at (hL 1 (by decide)) rfl
 have e2 := V.at (hL 2 (by decide)) rfl
 have e3 := V.at (hL 3 (by decide)) rfl
 have e4 := V.at (hL 4 (by decide)) rfl
 have e6 := V.at (hL 6 (by decide)) rfl
 have e7 := V.at (hL 7 (by decide)) rfl
 clear hL h5 h8 V
 replace B0 := B0.zw hY
 replace B1 := B1.zw hY
 replace B2 := B2.zw hY
 replace B3 := B3.zw hY
 replace hb := hb.trans (hY.mono hb.size)
 clear hY
 simp only [Exit.then, e5, e0, e1, e2, e3, e4, e6, e7]
 clear e5 e0 e1 e2 e3 e4 e6 e7
 have B4 := hk1_5
 clear hk1_5
 have zk1_5_0 : w.heap.size < k1_5 := by omega
 have zk1_5_1 : w.heap.size + 1 < k1_5 := by omega
 have zk1_5_2 : w.heap.size + 1 + 1 < k1_5 := by omega
 have zk1_5_3 : w.heap.size + 1 + 1 + 1 < k1_5 := by omega
 clear lt_B0 lt_B1 lt_B2 lt_B3
 go_upto_region 5 with (fail)
 have lt_B0 := B0.lt
 have lt_B1 := B1.lt
 have lt_B2 := B2.lt
 have lt_B3 := B3.lt
 have lt_B4 := B4.lt
 go_wp2_with (first | rw [← z64] | rw [← zero512] | (refine zla (.tmp 12) B4 Try.underlying26 Try.size26 ?_) | (refine zsr (.tmp 8) (.tmp 32) (fl 64 (fun _ _ => 0)) B3 Try.size26 ?_; try simp only [Act.put]; go_wp2_with fail))
 obtain ⟨W3, hwo, hzQ⟩ : ∃ v : World, v = (W2.setRow (w.heap.size + 1 + 1 + 1) (zb 512 (fl 64 (fun _ _ => 0)))) ∧ Blk v (w.heap.size) 64 24 (m) ∧ Blk v (w.heap.size + 1) 512 26 (fl 64 F) ∧ Blk v (w.heap.size + 1 + 1) 512 26 (fl 64 G) ∧ Blk v (w.heap.size + 1 + 1 + 1) 512 26 (fl 64 (fun _ _ => 0)) ∧ Blk v (k1_5) 512 26 (fl 64 (fun _ _ => 0)) ∧ Below w.heap.size w v := ⟨_, rfl, (B0.rowOther (by omega)), (B1.rowOther (by omega)), (B2.rowOther (by omega)), (B3.row (fl 64 (fun _ _ => 0))), (B4.rowOther (by omega)), (zr hb (by omega) _)⟩
 rw [← hwo]
 clear hwo B0 B1 B2 B3 B4 hb
 obtain ⟨B0, B1, B2, B3, B4, hb⟩ := hzQ
 try simp only [Act.put, pA, pB, pC]
 refine bodyPost_ret (zrt rfl _ _ _ 512 _ _ rfl B3 _ Try.underlying26 rfl Try.size26) rfl ⟨rfl, hb⟩
end Go.Proofs.Yteloknnooebabaa
namespace Go.Proofs.Yteloknnooebabaa
open Go Go.RowKit
attribute [local irreducible] deg addK okA flV skA
noncomputable def muV (p : Int) (m : Nat → Nat) (F G : Nat → Nat → Nat) : (Nat → Nat → Nat) × Int :=
 if ckS p m [F, G] = 0 then (if skD F + skD G ≤ 7 then (tmP p.toNat m (deg m).toNat F G, 0) else (fun _ _ => 0, 3)) else (fun _ _ => 0, 1)
theorem muV_0 {n d : Nat} {m : Nat → Nat} {F G : Nat → Nat → Nat} (h : ckS (n : Int) m [F, G] = 0) (hd : deg m = (d : Int)) (h2 : skD F + skD G ≤ 7) : muV (n : Int) m F G = (tmP n m d F G, 0) := by
 unfold muV; rw [if_pos h, if_pos h2, hd]; rfl
theorem muV_3 {p : Int} {m : Nat → Nat} {F G : Nat → Nat → Nat} (h : ckS p m [F, G] = 0) (h2 : ¬ skD F + skD G ≤ 7) : muV p m F G = (fun _ _ => 0, 3) := by unfold muV; rw [if_pos h, if_neg h2]
theorem muV_1 {p : Int} {m : Nat → Nat} {F G : Nat → Nat → Nat} (h : ckS p m [F, G] = 1) : muV p m F G = (fun _ _ => 0, 1) := if_neg (by omega)
attribute [irreducible] muV
theorem spec_MultiplySkews_any (p : Int) (m : Nat → Nat) (F G : Nat → Nat → Nat) (hm : byte m) (hF : ∀ i, byte (F i)) (hG : ∀ i, byte (G i)) (w : World) :
 Calls Try.prog 27 #[.int .i64 p, .agg (zb 64 m), .agg (zb 512 (fl 64 F)), .agg (zb 512 (fl 64 G))] w fun e w' => e = .returned (.tuple #[.agg (zb 512 (fl 64 (muV p m F G).1)), .int .i64 (muV p m F G).2]) ∧ Below w.heap.size w w' := by
 go_enter Try.func27, Try.ntmps27
 go_upto_region 1 with (fail)
 rw [← zero512]
 obtain ⟨W1, hwo⟩ : ∃ v : World, v = ((((w.alloc (.cells (zb 64 (m)) 24)).alloc (.cells (zb 512 (fl 64 F)) 26)).alloc (.cells (zb 512 (fl 64 G)) 26)).alloc (.cells (zb 512 (fl 64 (fun _ _ => 0))) 26)) := ⟨_, rfl⟩
 have B0 : Blk W1 (w.heap.size) 64 24 (m) := by subst hwo; have := ((((Blk.new w 64 24 (m)).alloc (.cells (zb 512 (fl 64 F)) 26)).alloc (.cells (zb 512 (fl 64 G)) 26)).alloc (.cells (zb 512 (fl 64 (fun _ _ => 0))) 26)); simpa using this
 have B1 : Blk W1 (w.heap.size + 1) 512 26 (fl 64 F) := by subst hwo; have := (((Blk.new (w.alloc (.cells (zb 64 (m)) 24)) 512 26 (fl 64 F)).alloc (.cells (zb 512 (fl 64 G)) 26)).alloc (.cells (zb 512 (fl 64 (fun _ _ => 0))) 26)); simpa using this
 have B2 : Blk W1 (w.heap.size + 1 + 1) 512 26 (fl 64 G) := by subst hwo; have := ((Blk.new ((w.alloc (.cells (zb 64 (m)) 24)).alloc (.cells (zb 512 (fl 64 F)) 26)) 512 26 (fl 64 G)).alloc (.cells (zb 512 (fl 64 (fun _ _ => 0))) 26)); simpa using this
 have B3 : Blk W1 (w.heap.size + 1 + 1 + 1) 512 26 (fl 64 (fun _ _ => 0)) := by subst hwo; have := (Blk.new (((w.alloc (.cells (zb 64 (m)) 24)).alloc (.cells (zb 512 (fl 64 F)) 26)).alloc (.cells (zb 512 (fl 64 G)) 26)) 512 26 (fl 64 (fun _ _ => 0))); simpa using this
 have hb : Below w.heap.size w W1 := by subst hwo; exact (((((Below.refl _ _).alloc (Nat.le_refl _) _).alloc (by simp) _).alloc (by simp; omega) _).alloc (by simp; omega) _)
 rw [← hwo]
 clear hwo
 rcases ckS_two p m [F, G] with hc | hc
 · obtain ⟨n, rfl, hpr, lm, ⟨d, hmon, hd1, hd4⟩, hl⟩ := ckS_fld hc
   have hd := hmon.1
   have lF : ∀ i, i < 8 → ∀ j, j < 64 → F i j < n := fun i hi => (hl F (by simp) i hi).1
   have lG : ∀ i, i < 8 → rsd n m (G i) := fun i hi => hl G (by simp) i hi
   obtain ⟨a1, a2⟩ := zsd F
   obtain ⟨b1, b2⟩ := zsd G
   by_cases hs : skD F + skD G ≤ 7
   · have HV := Lib.hid (muV_0 hc hd hs)
     have HTI := Lib.hid (fun W => l03Times_ok n m F G W hpr lm d hd hd1 (by omega) lF lG hs)
     go_upto_region 4 with (first | (refine zla (.tmp 5) B0 Try.underlying24 Try.size24 ?_) | (refine zla (.tmp 6) B1 Try.underlying26 Try.size26 ?_) | (refine zla (.tmp 7) B2 Try.underlying26 Try.size26 ?_) | (refine zbk rfl 170 _ [F, G] rfl 26 Try.underlying170 Try.elem26 (by simp) (by simp) rfl ?_; intro wa hps hba) | (go_at_call 92; refine (l03Code_any _ m hm [F, G] (by simp [hF, hG]) (by simp) _ _ hps).mono ?_; rintro e W2 ⟨rfl, hbb⟩; rw [hc]))
     have hBB : Below W1.heap.size W1 W2 := hba.trans (hbb.mono hba.size)
     replace B0 := B0.zw hBB
     replace B1 := B1.zw hBB
     replace B2 := B2.zw hBB
     replace B3 := B3.zw hBB
     replace hb := hb.trans (hBB.mono hb.size)
     clear hBB hba hbb hps
     clear hc hl lF lG hmon
     have lt_B0 := B0.lt
     have lt_B1 := B1.lt
     have lt_B2 := B2.lt
     have lt_B3 := B3.lt
     go_upto_region 7 with (first | rw [← z64] | rw [← zero512] | (refine zla (.tmp 5) B0 Try.underlying24 Try.size24 ?_) | (refine zla (.tmp 6) B1 Try.underlying26 Try.size26 ?_) | (refine zla (.tmp 7) B2 Try.underlying26 Try.size26 ?_) | (go_at_call 93; refine (HTI.out _).mono ?_; rintro e W3 ⟨rfl, hW3⟩; replace B0 := B0.zw hW3; replace B1 := B1.zw hW3; replace B2 := B2.zw hW3; replace B3 := B3.zw hW3; replace hb := (hb).trans (hW3.mono (hb).size)) | (refine wpList_store_blk rfl 26 (.tmp 11) (.tmp 29) rfl _ 512 (fl 64 (tmP n m d F G)) rfl rfl 26 _ ((Blk.new W3 512 26 (fl 64 (fun _ _ => 0)))) Try.size26 ?_; try simp only [Act.put]; go_upto_region 7 with (fail)))
     have lt_B0 := B0.lt
     have lt_B1 := B1.lt
     have lt_B2 := B2.lt
     have lt_B3 := B3.lt
     have lhb := hb.size
     obtain ⟨W4, hwo, hzQ⟩ : ∃ v : World, v = ((W3.alloc (.cells (zb 512 (fl 64 (fun _ _ => 0))) 26)).setRow (W3.heap.size) (zb 512 (fl 64 (tmP n m d F G)))) ∧ Blk v (w.heap.size) 64 24 (m) ∧ Blk v (w.heap.size + 1) 512 26 (fl 64 F) ∧ Blk v (w.heap.size + 1 + 1) 512 26 (fl 64 G) ∧ Blk v (w.heap.size + 1 + 1 + 1) 512 26 (fl 64 (fun _ _ => 0)) ∧ Blk v (W3.heap.size) 512 26 (fl 64 (tmP n m d F G)) ∧ Below w.heap.size w v := ⟨_, rfl, ((B0.alloc (.cells (zb 512 (fl 64 (fun _ _ => 0))) 26)).rowOther (by omega)), ((B1.alloc (.cells (zb 512 (fl 64 (fun _ _ => 0))) 26)).rowOther (by omega)), ((B2.alloc (.cells (zb 512 (fl 64 (fun _ _ => 0))) 26)).rowOther (by omega)), ((B3.alloc (.cells (zb 512 (fl 64 (fun _ _ => 0))) 26)).rowOther (by omega)), ((Blk.new W3 512 26 (fl 64 (fun _ _ => 0))).row (fl 64 (tmP n m d F G))), (zr (hb.alloc (by have := hb.size; simp; omega) (.cells (zb 512 (fl 64 (fun _ _ => 0))) 26)) (by omega) _)⟩
     rw [← hwo]
     clear hwo B0 B1 B2 B3 hb
     obtain ⟨B0, B1, B2, B3, B4, hb⟩ := hzQ
     obtain ⟨N1, hNN⟩ : ∃ n : Nat, n = W3.heap.size := ⟨_, rfl⟩
     rw [← hNN] at lt_B0 lt_B1 lt_B2 lt_B3 lhb B4 ⊢
     clear hNN
     have zN1_0 := lt_B0
     have zN1_1 := lt_B1
     have zN1_2 := lt_B2
     have zN1_3 := lt_B3
     have zN1 := lhb
     clear lt_B0 lt_B1 lt_B2 lt_B3 lhb
     try simp only [Act.put, pA, pB, pC]
     have lt_B0 := B0.lt
     have lt_B1 := B1.lt
     have lt_B2 := B2.lt
     have lt_B3 := B3.lt
     have lt_B4 := B4.lt
     go_wp2_with (first | rw [← z64] | rw [← zero512] | (refine zla (.tmp 11) B4 Try.underlying26 Try.size26 ?_) | (refine zsr (.tmp 8) (.tmp 34) (fl 64 (tmP n m d F G)) B3 Try.size26 ?_; try simp only [Act.put]; go_wp2_with fail))
     obtain ⟨W5, hwo, hzQ⟩ : ∃ v : World, v = (W4.setRow (w.heap.size + 1 + 1 + 1) (zb 512 (fl 64 (tmP n m d F G)))) ∧ Blk v (w.heap.size) 64 24 (m) ∧ Blk v (w.heap.size + 1) 512 26 (fl 64 F) ∧ Blk v (w.heap.size + 1 + 1) 512 26 (fl 64 G) ∧ Blk v (w.heap.size + 1 + 1 + 1) 512 26 (fl 64 (tmP n m d F G)) ∧ Blk v (N1) 512 26 (fl 64 (tmP n m d F G)) ∧ Below w.heap.size w v := ⟨_, rfl, (B0.rowOther (by omega)), (B1.rowOther (by omega)), (B2.rowOther (by omega)), (B3.row (fl 64 (tmP n m d F G))), (B4.rowOther (by omega)), (zr hb (by omega) _)⟩
     rw [← hwo]
     clear hwo B0 B1 B2 B3 B4 hb
     obtain ⟨B0, B1, B2, B3, B4, hb⟩ := hzQ
     try simp only [Act.put, pA, pB, pC]
     refine bodyPost_ret (zrt rfl _ _ _ 512 _ _ rfl B3 _ Try.underlying26 rfl Try.size26) rfl ⟨by first | (rw [HV.out]; rfl) | rw [HV.out], hb⟩
   have HV := Lib.hid (muV_3 hc hs)
   have HTI := Lib.hid (fun W => l03Times_no (n : Int) m F G W (by omega))
   go_upto_region 4 with (first | (refine zla (.tmp 5) B0 Try.underlying24 Try.size24 ?_) | (refine zla (.tmp 6) B1 Try.underlying26 Try.size26 ?_) | (refine zla (.tmp 7) B2 Try.underlying26 Try.size26 ?_) | (refine zbk rfl 170 _ [F, G] rfl 26 Try.underlying170 Try.elem26 (by simp) (by simp) rfl ?_; intro wa hps hba) | (go_at_call 92; refine (l03Code_any _ m hm [F, G] (by simp [hF, hG]) (by simp) _ _ hps).mono ?_; rintro e W2 ⟨rfl, hbb⟩; rw [hc]))
   have hBB : Below W1.heap.size W1 W2 := hba.trans (hbb.mono hba.size)
   replace B0 := B0.zw hBB
   replace B1 := B1.zw hBB
   replace B2 := B2.zw hBB
   replace B3 := B3.zw hBB
   replace hb := hb.trans (hBB.mono hb.size)
   clear hBB hba hbb hps
   clear hc hl lF lG hmon
   have lt_B0 := B0.lt
   have lt_B1 := B1.lt
   have lt_B2 := B2.lt
   have lt_B3 := B3.lt
   go_upto_region 6 with (first | rw [← z64] | rw [← zero512] | (refine zla (.tmp 5) B0 Try.underlying24 Try.size24 ?_) | (refine zla (.tmp 6) B1 Try.underlying26 Try.size26 ?_) | (refine zla (.tmp 7) B2 Try.underlying26 Try.size26 ?_) | (go_at_call 93; refine (HTI.out _).mono ?_; rintro e W3 ⟨rfl, hW3⟩; replace B0 := B0.zw hW3; replace B1 := B1.zw hW3; replace B2 := B2.zw hW3; replace B3 := B3.zw hW3; replace hb := (hb).trans (hW3.mono (hb).size)) | (refine wpList_store_blk rfl 26 (.tmp 11) (.tmp 29) rfl _ 512 (fl 64 (fun _ _ => 0)) rfl rfl 26 _ ((Blk.new W3 512 26 (fl 64 (fun _ _ => 0)))) Try.size26 ?_; try simp only [Act.put]; go_upto_region 6 with (fail)))
   have lt_B0 := B0.lt
   have lt_B1 := B1.lt
   have lt_B2 := B2.lt
   have lt_B3 := B3.lt
   have lhb := hb.size
   obtain ⟨W4, hwo, hzQ⟩ : ∃ v : World, v = ((W3.alloc (.cells (zb 512 (fl 64 (fun _ _ => 0))) 26)).setRow (W3.heap.size) (zb 512 (fl 64 (fun _ _ => 0)))) ∧ Blk v (w.heap.size) 64 24 (m) ∧ Blk v (w.heap.size + 1) 512 26 (fl 64 F) ∧ Blk v (w.heap.size + 1 + 1) 512 26 (fl 64 G) ∧ Blk v (w.heap.size + 1 + 1 + 1) 512 26 (fl 64 (fun _ _ => 0)) ∧ Blk v (W3.heap.size) 512 26 (fl 64 (fun _ _ => 0)) ∧ Below w.heap.size w v := ⟨_, rfl, ((B0.alloc (.cells (zb 512 (fl 64 (fun _ _ => 0))) 26)).rowOther (by omega)), ((B1.alloc (.cells (zb 512 (fl 64 (fun _ _ => 0))) 26)).rowOther (by omega)), ((B2.alloc (.cells (zb 512 (fl 64 (fun _ _ => 0))) 26)).rowOther (by omega)), ((B3.alloc (.cells (zb 512 (fl 64 (fun _ _ => 0))) 26)).rowOther (by omega)), ((Blk.new W3 512 26 (fl 64 (fun _ _ => 0))).row (fl 64 (fun _ _ => 0))), (zr (hb.alloc (by have := hb.size; simp; omega) (.cells (zb 512 (fl 64 (fun _ _ => 0))) 26)) (by omega) _)⟩
   rw [← hwo]
   clear hwo B0 B1 B2 B3 hb
   obtain ⟨B0, B1, B2, B3, B4, hb⟩ := hzQ
   obtain ⟨N1, hNN⟩ : ∃ n : Nat, n = W3.heap.size := ⟨_, rfl⟩
   rw [← hNN] at lt_B0 lt_B1 lt_B2 lt_B3 lhb B4 ⊢
   clear hNN
   have zN1_0 := lt_B0
   have zN1_1 := lt_B1
   have zN1_2 := lt_B2
   have zN1_3 := lt_B3
   have zN1 := lhb
   clear lt_B0 lt_B1 lt_B2 lt_B3 lhb
   try simp only [Act.put, pA, pB, pC]
   have lt_B0 := B0.lt
   have lt_B1 := B1.lt
   have lt_B2 := B2.lt
   have lt_B3 := B3.lt
   have lt_B4 := B4.lt
   go_wp2_with (first | rw [← z64] | rw [← zero512] | (refine zsr (.tmp 8) (.tmp 33) (fl 64 (fun _ _ => 0)) B3 Try.size26 ?_; try simp only [Act.put]; go_wp2_with fail))
   obtain ⟨W5, hwo, hzQ⟩ : ∃ v : World, v = (W4.setRow (w.heap.size + 1 + 1 + 1) (zb 512 (fl 64 (fun _ _ => 0)))) ∧ Blk v (w.heap.size) 64 24 (m) ∧ Blk v (w.heap.size + 1) 512 26 (fl 64 F) ∧ Blk v (w.heap.size + 1 + 1) 512 26 (fl 64 G) ∧ Blk v (w.heap.size + 1 + 1 + 1) 512 26 (fl 64 (fun _ _ => 0)) ∧ Blk v (N1) 512 26 (fl 64 (fun _ _ => 0)) ∧ Below w.heap.size w v := ⟨_, rfl, (B0.rowOther (by omega)), (B1.rowOther (by omega)), (B2.rowOther (by omega)), (B3.row (fl 64 (fun _ _ => 0))), (B4.rowOther (by omega)), (zr hb (by omega) _)⟩
   rw [← hwo]
   clear hwo B0 B1 B2 B3 B4 hb
   obtain ⟨B0, B1, B2, B3, B4, hb⟩ := hzQ
   try simp only [Act.put, pA, pB, pC]
   refine bodyPost_ret (zrt rfl _ _ _ 512 _ _ rfl B3 _ Try.underlying26 rfl Try.size26) rfl ⟨by first | (rw [HV.out]; rfl) | rw [HV.out], hb⟩
 have HV := Lib.hid (muV_1 hc)
 go_upto_region 3 with (first | (refine zla (.tmp 5) B0 Try.underlying24 Try.size24 ?_) | (refine zla (.tmp 6) B1 Try.underlying26 Try.size26 ?_) | (refine zla (.tmp 7) B2 Try.underlying26 Try.size26 ?_) | (refine zbk rfl 170 _ [F, G] rfl 26 Try.underlying170 Try.elem26 (by simp) (by simp) rfl ?_; intro wa hps hba) | (go_at_call 92; refine (l03Code_any _ m hm [F, G] (by simp [hF, hG]) (by simp) _ _ hps).mono ?_; rintro e W2 ⟨rfl, hbb⟩; rw [hc]))
 have hBB : Below W1.heap.size W1 W2 := hba.trans (hbb.mono hba.size)
 replace B0 := B0.zw hBB
 replace B1 := B1.zw hBB
 replace B2 := B2.zw hBB
 replace B3 := B3.zw hBB
 replace hb := hb.trans (hBB.mono hb.size)
 clear hBB hba hbb hps
 clear hc
 go_wp2_with (first | rw [← z64] | rw [← zero512] | (refine zsr (.tmp 8) (.tmp 21) (fl 64 (fun _ _ => 0)) B3 Try.size26 ?_; try simp only [Act.put]; go_wp2_with fail))
 obtain ⟨W3, hwo, hzQ⟩ : ∃ v : World, v = (W2.setRow (w.heap.size + 1 + 1 + 1) (zb 512 (fl 64 (fun _ _ => 0)))) ∧ Blk v (w.heap.size) 64 24 (m) ∧ Blk v (w.heap.size + 1) 512 26 (fl 64 F) ∧ Blk v (w.heap.size + 1 + 1) 512 26 (fl 64 G) ∧ Blk v (w.heap.size + 1 + 1 + 1) 512 26 (fl 64 (fun _ _ => 0)) ∧ Below w.heap.size w v := ⟨_, rfl, (B0.rowOther (by omega)), (B1.rowOther (by omega)), (B2.rowOther (by omega)), (B3.row (fl 64 (fun _ _ => 0))), (zr hb (by omega) _)⟩
 rw [← hwo]
 clear hwo B0 B1 B2 B3 hb
 obtain ⟨B0, B1, B2, B3, hb⟩ := hzQ
 try simp only [Act.put, pA, pB, pC]
 refine bodyPost_ret (zrt rfl _ _ _ 512 _ _ rfl B3 _ Try.underlying26 rfl Try.size26) rfl ⟨by first | (rw [HV.out]; rfl) | rw [HV.out], hb⟩
theorem impl_MultiplySkews_any (p : Int) (m : Nat → Nat) (F G : Nat → Nat → Nat) (hm : byte m) (hF : ∀ i, byte (F i)) (hG : ∀ i, byte (G i)) (w : World) :
 Calls Try.prog 30 #[.int .i64 p, .agg (zb 64 m), .agg (zb 512 (fl 64 F)), .agg (zb 512 (fl 64 G))] w fun e w' => e = .returned (.tuple #[.agg (zb 512 (fl 64 (muV p m F G).1)), .int .i64 (muV p m F G).2]) ∧ Below w.heap.size w w' := by
 go_enter Try.func30, Try.ntmps30
 go_upto_region 1 with (fail)
 rw [← zero512]
 obtain ⟨W1, hwo⟩ : ∃ v : World, v = ((((w.alloc (.cells (zb 64 (m)) 24)).alloc (.cells (zb 512 (fl 64 F)) 26)).alloc (.cells (zb 512 (fl 64 G)) 26)).alloc (.cells (zb 512 (fl 64 (fun _ _ => 0))) 26)) := ⟨_, rfl⟩
 have B0 : Blk W1 (w.heap.size) 64 24 (m) := by subst hwo; have := ((((Blk.new w 64 24 (m)).alloc (.cells (zb 512 (fl 64 F)) 26)).alloc (.cells (zb 512 (fl 64 G)) 26)).alloc (.cells (zb 512 (fl 64 (fun _ _ => 0))) 26)); simpa using this
 have B1 : Blk W1 (w.heap.size + 1) 512 26 (fl 64 F) := by subst hwo; have := (((Blk.new (w.alloc (.cells (zb 64 (m)) 24)) 512 26 (fl 64 F)).alloc (.cells (zb 512 (fl 64 G)) 26)).alloc (.cells (zb 512 (fl 64 (fun _ _ => 0))) 26)); simpa using this
 have B2 : Blk W1 (w.heap.size + 1 + 1) 512 26 (fl 64 G) := by subst hwo; have := ((Blk.new ((w.alloc (.cells (zb 64 (m)) 24)).alloc (.cells (zb 512 (fl 64 F)) 26)) 512 26 (fl 64 G)).alloc (.cells (zb 512 (fl 64 (fun _ _ => 0))) 26)); simpa using this
 have B3 : Blk W1 (w.heap.size + 1 + 1 + 1) 512 26 (fl 64 (fun _ _ => 0)) := by subst hwo; have := (Blk.new (((w.alloc (.cells (zb 64 (m)) 24)).alloc (.cells (zb 512 (fl 64 F)) 26)).alloc (.cells (zb 512 (fl 64 G)) 26)) 512 26 (fl 64 (fun _ _ => 0))); simpa using this
 have hb : Below w.heap.size w W1 := by subst hwo; exact (((((Below.refl _ _).alloc (Nat.le_refl _) _).alloc (by simp) _).alloc (by simp; omega) _).alloc (by simp; omega) _)
 rw [← hwo]
 clear hwo
 rcases ckS_two p m [F, G] with hc | hc
 · obtain ⟨n, rfl, hpr, lm, ⟨d, hmon, hd1, hd4⟩, hl⟩ := ckS_fld hc
   have hd := hmon.1
   have lF : ∀ i, i < 8 → ∀ j, j < 64 → F i j < n := fun i hi => (hl F (by simp) i hi).1
   have lG : ∀ i, i < 8 → rsd n m (G i) := fun i hi => hl G (by simp) i hi
   obtain ⟨a1, a2⟩ := zsd F
   obtain ⟨b1, b2⟩ := zsd G
   by_cases hs : skD F + skD G ≤ 7
   · have HV := Lib.hid (muV_0 hc hd hs)
     have HTI := Lib.hid (fun W => skTimes_any n m F G W hpr lm d hd hd1 (by omega) lF lG hs)
     have hsg : ¬ skD F + skD G > 7 := by omega
     go_upto_region 4 with (first | (refine zla (.tmp 5) B0 Try.underlying24 Try.size24 ?_) | (refine zla (.tmp 6) B1 Try.underlying26 Try.size26 ?_) | (refine zla (.tmp 7) B2 Try.underlying26 Try.size26 ?_) | (refine zbk rfl 170 _ [F, G] rfl 26 Try.underlying170 Try.elem26 (by simp) (by simp) rfl ?_; intro wa hps hba) | (go_at_call 94; refine (checkSkews_any _ m hm [F, G] (by simp [hF, hG]) (by simp) _ _ hps).mono ?_; rintro e W2 ⟨rfl, hbb⟩; rw [hc]))
     have hBB : Below W1.heap.size W1 W2 := hba.trans (hbb.mono hba.size)
     replace B0 := B0.zw hBB
     replace B1 := B1.zw hBB
     replace B2 := B2.zw hBB
     replace B3 := B3.zw hBB
     replace hb := hb.trans (hBB.mono hb.size)
     clear hBB hba hbb hps
     clear hc hl lF lG hmon
     have lt_B0 : (w.heap.size) < W2.heap.size := B0.lt
     have lt_B1 : (w.heap.size + 1) < W2.heap.size := B1.lt
     have lt_B2 : (w.heap.size + 1 + 1) < W2.heap.size := B2.lt
     have lt_B3 : (w.heap.size + 1 + 1 + 1) < W2.heap.size := B3.lt
     have hbase : w.heap.size ≤ W2.heap.size := hb.size
     refine zq Try.mixed (by kernel_rfl) (by kernel_rfl) (fun v => by (simp only [frL, Act.put, pA, pB, pC, Nat.reduceAdd, Nat.zero_add]; exact rfl))
      (fun L v W3 => Below w.heap.size w W3 ∧ W2.heap.size ≤ W3.heap.size ∧ Blk W3 (w.heap.size) 64 24 (m) ∧ Blk W3 (w.heap.size + 1) 512 26 (fl 64 F) ∧ Blk W3 (w.heap.size + 1 + 1) 512 26 (fl 64 G) ∧ Blk W3 (w.heap.size + 1 + 1 + 1) 512 26 (fl 64 (fun _ _ => 0)) ∧ VF L v [some (.agg (zb 512 (fl 64 F))), some (.int .i64 (skD F)), some (.agg (zb 512 (fl 64 G))), some (.int .i64 (skD G)), some (.int .i64 (skD F + skD G)), some (.bool false)]) ?_ ?_ ?_
     · intro v hv0
       exact ⟨hb.drew, Nat.le_refl _, B0.drew, B1.drew, B2.drew, B3.drew, VF.start⟩
     · refine (.cons rfl ?_ (.cons rfl ?_ (.cons rfl ?_ (.cons rfl ?_ (.cons rfl ?_ (.cons rfl ?_ (.nil _)))))))
       all_goals intro L v W3 hd hn ⟨hB, hz, s0, s1, s2, s3, V⟩ K hK
       · refine zlc s1 Try.underlying26 Try.size26 ?_
         exact hK _ _ _ rfl ⟨hB, hz, s0, s1, s2, s3, V.step 0 rfl⟩
       · have e0 := V.at (zdq hd 0 rfl) rfl
         go_wp2_with (go_at_call 95; refine (skDegree_any F _).mono ?_; rintro e wy ⟨rfl, hy⟩)
         exact hK _ (.int .i64 (skD F)) _ (by simp only [Act.put, pA, pB, pC, e0]) ⟨hB.trans (hy.mono hB.size), (Nat.le_trans hz hy.size), s0.zw hy, s1.zw hy, s2.zw hy, s3.zw hy, V.step 1 rfl⟩
       · refine zlc s2 Try.underlying26 Try.size26 ?_
         exact hK _ _ _ rfl ⟨hB, hz, s0, s1, s2, s3, V.step 2 rfl⟩
       · have e2 := V.at (zdq hd 2 rfl) rfl
         go_wp2_with (go_at_call 95; refine (skDegree_any G _).mono ?_; rintro e wy ⟨rfl, hy⟩)
         exact hK _ (.int .i64 (skD G)) _ (by simp only [Act.put, pA, pB, pC, e2]) ⟨hB.trans (hy.mono hB.size), (Nat.le_trans hz hy.size), s0.zw hy, s1.zw hy, s2.zw hy, s3.zw hy, V.step 3 rfl⟩
       · have e1 := V.at (zdq hd 1 rfl) rfl
         have e3 := V.at (zdq hd 3 rfl) rfl
         go_wp2_with fail
         exact hK _ (.int .i64 (skD F + skD G)) _ (by simp only [Act.put, pA, pB, pC, e1, e3]) ⟨hB, hz, s0, s1, s2, s3, V.step 4 rfl⟩
       have e4 := V.at (zdq hd 4 rfl) rfl
       go_wp2_with fail
       try rw [show decide (7 < skD F + skD G) = false by simp; omega]
       exact hK _ (.bool false) _ (by simp only [Act.put, pA, pB, pC, e4]) ⟨hB, hz, s0, s1, s2, s3, V.step 5 rfl⟩
     intro L v W3 hL ⟨hB, hz, s0, s1, s2, s3, V⟩
     have e0 := V.at (hL 0 (by decide)) rfl
     have e1 := V.at (hL 1 (by decide)) rfl
     have e2 := V.at (hL 2 (by decide)) rfl
     have e3 := V.at (hL 3 (by decide)) rfl
     have e4 := V.at (hL 4 (by decide)) rfl
     have e5 := V.at (hL 5 (by decide)) rfl
     clear hL V
     simp only [Exit.then, e0, e1, e2, e3, e4, e5]
     clear e0 e1 e2 e3 e4 e5
     replace B0 := s0
     clear s0
     replace B1 := s1
     clear s1
     replace B2 := s2
     clear s2
     replace B3 := s3
     clear s3
     replace hb := hB
     clear hB
     clear hbase hz lt_B0 lt_B1 lt_B2 lt_B3
     go_upto_region 6 with (fail)
     have lt_B0 := B0.lt
     have lt_B1 := B1.lt
     have lt_B2 := B2.lt
     have lt_B3 := B3.lt
     go_wp2_with (first | rw [← z64] | rw [← zero512] | (refine zla (.tmp 6) B1 Try.underlying26 Try.size26 ?_) | (refine zla (.tmp 5) B0 Try.underlying24 Try.size24 ?_) | (refine zbo rfl 96 _ rfl (fdC (n : Int) m).toArray (by rw [Array.toList_map]; exact built_fd (n : Int) m) ?_) | (refine zla (.tmp 7) B2 Try.underlying26 Try.size26 ?_) | (go_at_call 96; refine (HTI.out _).mono ?_; rintro e W4 ⟨rfl, hW4⟩; replace B0 := B0.zw hW4; replace B1 := B1.zw hW4; replace B2 := B2.zw hW4; replace B3 := B3.zw hW4; replace hb := (hb).trans (hW4.mono (hb).size)) | (refine zsr (.tmp 8) (.tmp 33) (fl 64 (tmP n m d F G)) B3 Try.size26 ?_; try simp only [Act.put]; go_wp2_with fail))
     obtain ⟨W5, hwo, hzQ⟩ : ∃ v : World, v = (W4.setRow (w.heap.size + 1 + 1 + 1) (zb 512 (fl 64 (tmP n m d F G)))) ∧ Blk v (w.heap.size) 64 24 (m) ∧ Blk v (w.heap.size + 1) 512 26 (fl 64 F) ∧ Blk v (w.heap.size + 1 + 1) 512 26 (fl 64 G) ∧ Blk v (w.heap.size + 1 + 1 + 1) 512 26 (fl 64 (tmP n m d F G)) ∧ Below w.heap.size w v := ⟨_, rfl, (B0.rowOther (by omega)), (B1.rowOther (by omega)), (B2.rowOther (by omega)), (B3.row (fl 64 (tmP n m d F G))), (zr hb (by omega) _)⟩
     rw [← hwo]
     clear hwo B0 B1 B2 B3 hb
     obtain ⟨B0, B1, B2, B3, hb⟩ := hzQ
     try simp only [Act.put, pA, pB, pC]
     refine bodyPost_ret (zrt rfl _ _ _ 512 _ _ rfl B3 _ Try.underlying26 rfl Try.size26) rfl ⟨by first | (rw [HV.out]; rfl) | rw [HV.out], hb⟩
   have HV := Lib.hid (muV_3 hc hs)
   have hsg : skD F + skD G > 7 := by omega
   go_upto_region 4 with (first | (refine zla (.tmp 5) B0 Try.underlying24 Try.size24 ?_) | (refine zla (.tmp 6) B1 Try.underlying26 Try.size26 ?_) | (refine zla (.tmp 7) B2 Try.underlying26 Try.size26 ?_) | (refine zbk rfl 170 _ [F, G] rfl 26 Try.underlying170 Try.elem26 (by simp) (by simp) rfl ?_; intro wa hps hba) | (go_at_call 94; refine (checkSkews_any _ m hm [F, G] (by simp [hF, hG]) (by simp) _ _ hps).mono ?_; rintro e W2 ⟨rfl, hbb⟩; rw [hc]))
   have hBB : Below W1.heap.size W1 W2 := hba.trans (hbb.mono hba.size)
   replace B0 := B0.zw hBB
   replace B1 := B1.zw hBB
   replace B2 := B2.zw hBB
   replace B3 := B3.zw hBB
   replace hb := hb.trans (hBB.mono hb.size)
   clear hBB hba hbb hps
   clear hc hl lF lG hmon
   have lt_B0 : (w.heap.size) < W2.heap.size := B0.lt
   have lt_B1 : (w.heap.size + 1) < W2.heap.size := B1.lt
   have lt_B2 : (w.heap.size + 1 + 1) < W2.heap.size := B2.lt
   have lt_B3 : (w.heap.size + 1 + 1 + 1) < W2.heap.size := B3.lt
   have hbase : w.heap.size ≤ W2.heap.size := hb.size
   refine zq Try.mixed (by kernel_rfl) (by kernel_rfl) (fun v => by (simp only [frL, Act.put, pA, pB, pC, Nat.reduceAdd, Nat.zero_add]; exact rfl))
    (fun L v W3 => Below w.heap.size w W3 ∧ W2.heap.size ≤ W3.heap.size ∧ Blk W3 (w.heap.size) 64 24 (m) ∧ Blk W3 (w.heap.size + 1) 512 26 (fl 64 F) ∧ Blk W3 (w.heap.size + 1 + 1) 512 26 (fl 64 G) ∧ Blk W3 (w.heap.size + 1 + 1 + 1) 512 26 (fl 64 (fun _ _ => 0)) ∧ VF L v [some (.agg (zb 512 (fl 64 F))), some (.int .i64 (skD F)), some (.agg (zb 512 (fl 64 G))), some (.int .i64 (skD G)), some (.int .i64 (skD F + skD G)), some (.bool true)]) ?_ ?_ ?_
   · intro v hv0
     exact ⟨hb.drew, Nat.le_refl _, B0.drew, B1.drew, B2.drew, B3.drew, VF.start⟩
   · refine (.cons rfl ?_ (.cons rfl ?_ (.cons rfl ?_ (.cons rfl ?_ (.cons rfl ?_ (.cons rfl ?_ (.nil _)))))))
     all_goals intro L v W3 hd hn ⟨hB, hz, s0, s1, s2, s3, V⟩ K hK
     · refine zlc s1 Try.underlying26 Try.size26 ?_
       exact hK _ _ _ rfl ⟨hB, hz, s0, s1, s2, s3, V.step 0 rfl⟩
     · have e0 := V.at (zdq hd 0 rfl) rfl
       go_wp2_with (go_at_call 95; refine (skDegree_any F _).mono ?_; rintro e wy ⟨rfl, hy⟩)
       exact hK _ (.int .i64 (skD F)) _ (by simp only [Act.put, pA, pB, pC, e0]) ⟨hB.trans (hy.mono hB.size), (Nat.le_trans hz hy.size), s0.zw hy, s1.zw hy, s2.zw hy, s3.zw hy, V.step 1 rfl⟩
     · refine zlc s2 Try.underlying26 Try.size26 ?_
       exact hK _ _ _ rfl ⟨hB, hz, s0, s1, s2, s3, V.step 2 rfl⟩
     · have e2 := V.at (zdq hd 2 rfl) rfl
       go_wp2_with (go_at_call 95; refine (skDegree_any G _).mono ?_; rintro e wy ⟨rfl, hy⟩)
       exact hK _ (.int .i64 (skD G)) _ (by simp only [Act.put, pA, pB, pC, e2]) ⟨hB.trans (hy.mono hB.size), (Nat.le_trans hz hy.size), s0.zw hy, s1.zw hy, s2.zw hy, s3.zw hy, V.step 3 rfl⟩
     · have e1 := V.at (zdq hd 1 rfl) rfl
       have e3 := V.at (zdq hd 3 rfl) rfl
       go_wp2_with fail
       exact hK _ (.int .i64 (skD F + skD G)) _ (by simp only [Act.put, pA, pB, pC, e1, e3]) ⟨hB, hz, s0, s1, s2, s3, V.step 4 rfl⟩
     have e4 := V.at (zdq hd 4 rfl) rfl
     go_wp2_with fail
     try rw [show decide (7 < skD F + skD G) = true by simp; omega]
     exact hK _ (.bool true) _ (by simp only [Act.put, pA, pB, pC, e4]) ⟨hB, hz, s0, s1, s2, s3, V.step 5 rfl⟩
   intro L v W3 hL ⟨hB, hz, s0, s1, s2, s3, V⟩
   have e0 := V.at (hL 0 (by decide)) rfl
   have e1 := V.at (hL 1 (by decide)) rfl
   have e2 := V.at (hL 2 (by decide)) rfl
   have e3 := V.at (hL 3 (by decide)) rfl
   have e4 := V.at (hL 4 (by decide)) rfl
   have e5 := V.at (hL 5 (by decide)) rfl
   clear hL V
   simp only [Exit.then, e0, e1, e2, e3, e4, e5]
   clear e0 e1 e2 e3 e4 e5
   replace B0 := s0
   clear s0
   replace B1 := s1
   clear s1
   replace B2 := s2
   clear s2
   replace B3 := s3
   clear s3
   replace hb := hB
   clear hB
   clear hbase hz lt_B0 lt_B1 lt_B2 lt_B3
   go_upto_region 5 with (fail)
   have lt_B0 := B0.lt
   have lt_B1 := B1.lt
   have lt_B2 := B2.lt
   have lt_B3 := B3.lt
   go_wp2_with (first | rw [← z64] | rw [← zero512] | (refine zsr (.tmp 8) (.tmp 27) (fl 64 (fun _ _ => 0)) B3 Try.size26 ?_; try simp only [Act.put]; go_wp2_with fail))
   obtain ⟨W4, hwo, hzQ⟩ : ∃ v : World, v = (W3.setRow (w.heap.size + 1 + 1 + 1) (zb 512 (fl 64 (fun _ _ => 0)))) ∧ Blk v (w.heap.size) 64 24 (m) ∧ Blk v (w.heap.size + 1) 512 26 (fl 64 F) ∧ Blk v (w.heap.size + 1 + 1) 512 26 (fl 64 G) ∧ Blk v (w.heap.size + 1 + 1 + 1) 512 26 (fl 64 (fun _ _ => 0)) ∧ Below w.heap.size w v := ⟨_, rfl, (B0.rowOther (by omega)), (B1.rowOther (by omega)), (B2.rowOther (by omega)), (B3.row (fl 64 (fun _ _ => 0))), (zr hb (by omega) _)⟩
   rw [← hwo]
   clear hwo B0 B1 B2 B3 hb
   obtain ⟨B0, B1, B2, B3, hb⟩ := hzQ
   try simp only [Act.put, pA, pB, pC]
   refine bodyPost_ret (zrt rfl _ _ _ 512 _ _ rfl B3 _ Try.underlying26 rfl Try.size26) rfl ⟨by first | (rw [HV.out]; rfl) | rw [HV.out], hb⟩
 have HV := Lib.hid (muV_1 hc)
 go_upto_region 3 with (first | (refine zla (.tmp 5) B0 Try.underlying24 Try.size24 ?_) | (refine zla (.tmp 6) B1 Try.underlying26 Try.size26 ?_) | (refine zla (.tmp 7) B2 Try.underlying26 Try.size26 ?_) | (refine zbk rfl 170 _ [F, G] rfl 26 Try.underlying170 Try.elem26 (by simp) (by simp) rfl ?_; intro wa hps hba) | (go_at_call 94; refine (checkSkews_any _ m hm [F, G] (by simp [hF, hG]) (by simp) _ _ hps).mono ?_; rintro e W2 ⟨rfl, hbb⟩; rw [hc]))
 have hBB : Below W1.heap.size W1 W2 := hba.trans (hbb.mono hba.size)
 replace B0 := B0.zw hBB
 replace B1 := B1.zw hBB
 replace B2 := B2.zw hBB
 replace B3 := B3.zw hBB
 replace hb := hb.trans (hBB.mono hb.size)
 clear hBB hba hbb hps
 clear hc
 go_wp2_with (first | rw [← z64] | rw [← zero512] | (refine zsr (.tmp 8) (.tmp 19) (fl 64 (fun _ _ => 0)) B3 Try.size26 ?_; try simp only [Act.put]; go_wp2_with fail))
 obtain ⟨W3, hwo, hzQ⟩ : ∃ v : World, v = (W2.setRow (w.heap.size + 1 + 1 + 1) (zb 512 (fl 64 (fun _ _ => 0)))) ∧ Blk v (w.heap.size) 64 24 (m) ∧ Blk v (w.heap.size + 1) 512 26 (fl 64 F) ∧ Blk v (w.heap.size + 1 + 1) 512 26 (fl 64 G) ∧ Blk v (w.heap.size + 1 + 1 + 1) 512 26 (fl 64 (fun _ _ => 0)) ∧ Below w.heap.size w v := ⟨_, rfl, (B0.rowOther (by omega)), (B1.rowOther (by omega)), (B2.rowOther (by omega)), (B3.row (fl 64 (fun _ _ => 0))), (zr hb (by omega) _)⟩
 rw [← hwo]
 clear hwo B0 B1 B2 B3 hb
 obtain ⟨B0, B1, B2, B3, hb⟩ := hzQ
 try simp only [Act.put, pA, pB, pC]
 refine bodyPost_ret (zrt rfl _ _ _ 512 _ _ rfl B3 _ Try.underlying26 rfl Try.size26) rfl ⟨by first | (rw [HV.out]; rfl) | rw [HV.out], hb⟩
end Go.Proofs.Yteloknnooebabaa
namespace Go.Proofs.Yteloknnooebabaa
open Go Go.RowKit
theorem FnExactMultiplySkews_walk (p : Int) (m : Nat → Nat) (F : Nat → Nat → Nat) (G : Nat → Nat → Nat) (hm : byte m) (hF : ∀ i, byte (F i)) (hG : ∀ i, byte (G i)) (w : World) :
 Calls Try.prog 3 #[.int .i64 p, .agg (zb 64 m), .agg (zb 512 (fl 64 F)), .agg (zb 512 (fl 64 G))] w fun e w' => e = .returned (.bool true) ∧ Below w.heap.size w w' := by
 go_enter Try.func3, Try.ntmps3
 go_upto_region 1 with (fail)
 obtain ⟨W1, hwo⟩ : ∃ v : World, v = (((w.alloc (.cells (zb 64 (m)) 22)).alloc (.cells (zb 512 (fl 64 F)) 23)).alloc (.cells (zb 512 (fl 64 G)) 23)) := ⟨_, rfl⟩
 have B0 : Blk W1 (w.heap.size) 64 22 (m) := by subst hwo; have := (((Blk.new w 64 22 (m)).alloc (.cells (zb 512 (fl 64 F)) 23)).alloc (.cells (zb 512 (fl 64 G)) 23)); simpa using this
 have B1 : Blk W1 (w.heap.size + 1) 512 23 (fl 64 F) := by subst hwo; have := ((Blk.new (w.alloc (.cells (zb 64 (m)) 22)) 512 23 (fl 64 F)).alloc (.cells (zb 512 (fl 64 G)) 23)); simpa using this
 have B2 : Blk W1 (w.heap.size + 1 + 1) 512 23 (fl 64 G) := by subst hwo; have := (Blk.new ((w.alloc (.cells (zb 64 (m)) 22)).alloc (.cells (zb 512 (fl 64 F)) 23)) 512 23 (fl 64 G)); simpa using this
 have hb : Below w.heap.size w W1 := by subst hwo; exact ((((Below.refl _ _).alloc (Nat.le_refl _) _).alloc (by simp) _).alloc (by simp; omega) _)
 rw [← hwo]
 clear hwo
 have hne1 : (((muV p m F G).2) != ((muV p m F G).2)) = false := by simp
 have lt_B0 : (w.heap.size) < W1.heap.size := B0.lt
 have lt_B1 : (w.heap.size + 1) < W1.heap.size := B1.lt
 have lt_B2 : (w.heap.size + 1 + 1) < W1.heap.size := B2.lt
 refine zq Try.mixed (by kernel_rfl) (by kernel_rfl) (fun v => by (simp only [frL, Act.put, pA, pB, pC, Nat.reduceAdd, Nat.zero_add]; exact rfl))
  (fun L v W2 => Below W1.heap.size W1 W2 ∧ (L 11 = true → AF (v 11) W2 W1.heap.size 512 26) ∧ (L 12 = true → PF (v 11) W2 W1.heap.size 512 26 (fl 64 ((muV p m F G).1))) ∧ VF L v [some (.int .i64 p), some (.agg (zb 64 (m))), some (.agg (zb 64 (m))), some (.agg (zb 512 (fl 64 F))), some (.agg (zb 512 (fl 64 F))), some (.agg (zb 512 (fl 64 G))), some (.agg (zb 512 (fl 64 G))), some (.tuple #[(.agg (zb 512 (fl 64 ((muV p m F G).1)))), (.int .i64 ((muV p m F G).2))]), some (.tuple #[(.agg (zb 512 (fl 64 ((muV p m F G).1)))), (.int .i64 ((muV p m F G).2))]), some (.agg (zb 512 (fl 64 ((muV p m F G).1)))), some (.int .i64 ((muV p m F G).2)), none, none, some (.int .i64 ((muV p m F G).2))]) ?_ ?_ ?_
 · intro v hv0
   exact ⟨(Below.refl _ W1).drew, (fun h => by cases h), (fun h => by cases h), VF.start⟩
 · refine (.cons rfl ?_ (.cons rfl ?_ (.cons rfl ?_ (.cons rfl ?_ (.cons rfl ?_ (.cons rfl ?_ (.cons rfl ?_ (.cons rfl ?_ (.cons rfl ?_ (.cons rfl ?_ (.cons rfl ?_ (.cons rfl ?_ (.cons rfl ?_ (.cons rfl ?_ (.nil _)))))))))))))))
   all_goals intro L v W2 hd hn ⟨hY, h11, h12, V⟩ K hK
   · go_wp2_with fail
     exact hK _ (.int .i64 p) _ (by simp only [Act.put, pA, pB, pC ]) ⟨hY, h11, h12, V.step 0 rfl⟩
   · refine zlc (B0.zw hY) Try.underlying22 Try.size22 ?_
     exact hK _ _ _ rfl ⟨hY, h11, h12, V.step 1 rfl⟩
   · have e1 := V.at (zdq hd 1 rfl) rfl
     go_wp2_with (go_at_call 28; refine (toPoly_any m hm _).mono ?_; rintro e wy ⟨rfl, hy⟩)
     exact hK _ (.agg (zb 64 (m))) _ (by simp only [Act.put, pA, pB, pC, e1]) ⟨hY.trans (hy.mono hY.size), (fun h => (h11 h).below hy), (fun h => (h12 h).below hy), V.step 2 rfl⟩
   · refine zlc (B1.zw hY) Try.underlying23 Try.size23 ?_
     exact hK _ _ _ rfl ⟨hY, h11, h12, V.step 3 rfl⟩
   · have e3 := V.at (zdq hd 3 rfl) rfl
     go_wp2_with (go_at_call 29; refine (toSkew_any F hF _).mono ?_; rintro e wy ⟨rfl, hy⟩)
     exact hK _ (.agg (zb 512 (fl 64 F))) _ (by simp only [Act.put, pA, pB, pC, e3]) ⟨hY.trans (hy.mono hY.size), (fun h => (h11 h).below hy), (fun h => (h12 h).below hy), V.step 4 rfl⟩
   · refine zlc (B2.zw hY) Try.underlying23 Try.size23 ?_
     exact hK _ _ _ rfl ⟨hY, h11, h12, V.step 5 rfl⟩
   · have e5 := V.at (zdq hd 5 rfl) rfl
     go_wp2_with (go_at_call 29; refine (toSkew_any G hG _).mono ?_; rintro e wy ⟨rfl, hy⟩)
     exact hK _ (.agg (zb 512 (fl 64 G))) _ (by simp only [Act.put, pA, pB, pC, e5]) ⟨hY.trans (hy.mono hY.size), (fun h => (h11 h).below hy), (fun h => (h12 h).below hy), V.step 6 rfl⟩
   · have e0 := V.at (zdq hd 0 rfl) rfl
     have e2 := V.at (zdq hd 2 rfl) rfl
     have e4 := V.at (zdq hd 4 rfl) rfl
     have e6 := V.at (zdq hd 6 rfl) rfl
     go_wp2_with (go_at_call 27; refine (spec_MultiplySkews_any p m F G hm hF hG _).mono ?_; rintro e wy ⟨rfl, hy⟩)
     exact hK _ (.tuple #[(.agg (zb 512 (fl 64 ((muV p m F G).1)))), (.int .i64 ((muV p m F G).2))]) _ (by simp only [Act.put, pA, pB, pC, e0, e2, e4, e6]) ⟨hY.trans (hy.mono hY.size), (fun h => (h11 h).below hy), (fun h => (h12 h).below hy), V.step 7 rfl⟩
   · have e7 := V.at (zdq hd 7 rfl) rfl
     go_wp2_with fail
     exact hK _ (.tuple #[(.agg (zb 512 (fl 64 ((muV p m F G).1)))), (.int .i64 ((muV p m F G).2))]) _ (by simp only [Act.put, pA, pB, pC, e7]) ⟨hY, h11, h12, V.step 8 rfl⟩
   · have e8 := V.at (zdq hd 8 rfl) rfl
     go_wp2_with fail
     exact hK _ (.agg (zb 512 (fl 64 ((muV p m F G).1)))) _ (by simp only [Act.put, pA, pB, pC, e8]) ⟨hY, h11, h12, V.step 9 rfl⟩
   · have e8 := V.at (zdq hd 8 rfl) rfl
     go_wp2_with fail
     exact hK _ (.int .i64 ((muV p m F G).2)) _ (by simp only [Act.put, pA, pB, pC, e8]) ⟨hY, h11, h12, V.step 10 rfl⟩
   · go_wp2_with fail
     rw [← zero512]
     exact hK _ (.pointer (some ⟨W2.heap.size, 0, none⟩)) _ (by simp only [Act.put, pA, pB, pC ]) ⟨hY.alloc hY.size _, (fun _ => (PF.new W2 512 26 _ hY.size).af), (fun h => absurd rfl (hn 12 _ rfl h ⟨11, .data⟩ (by simp) rfl)), V.skip 11 rfl⟩
   · have e9 := V.at (zdq hd 9 rfl) rfl
     obtain ⟨gz, b, ea, hN, hk⟩ := (h11 (zdq hd 11 rfl)).out
     refine zsb 26 _ _ rfl b 512 (fl 64 ((muV p m F G).1)) ea e9 26 gz hk Try.size26 ?_
     exact hK _ undef _ rfl ⟨zr hY hN _, (fun h => (h11 h).row hk), (fun _ => by rw [show updV v 12 undef 11 = v 11 from rfl, ea]; exact PF.row hk hN _), V.skip 12 rfl⟩
   have e10 := V.at (zdq hd 10 rfl) rfl
   go_wp2_with fail
   exact hK _ (.int .i64 ((muV p m F G).2)) _ (by simp only [Act.put, pA, pB, pC, e10]) ⟨hY, h11, h12, V.step 13 rfl⟩
 intro L v W2 hL ⟨hY, h11, h12, V⟩
 obtain ⟨k1_11, e11, hNk1_11, hk1_11⟩ := (h12 (hL 12 (by decide))).out
 have e0 := V.at (hL 0 (by decide)) rfl
 have e1 := V.at (hL 1 (by decide)) rfl
 have e2 := V.at (hL 2 (by decide)) rfl
 have e3 := V.at (hL 3 (by decide)) rfl
 have e4 := V.at (hL 4 (by decide)) rfl
 have e5 := V.at (hL 5 (by decide)) rfl
 have e6 := V.at (hL 6 (by decide)) rfl
 have e7 := V.at (hL 7 (by decide)) rfl
 have e8 := V.at (hL 8 (by decide)) rfl
 have e9 := V.at (hL 9 (by decide)) rfl
 have e10 := V.at (hL 10 (by decide)) rfl
 have e13 := V.at (hL 13 (by decide)) rfl
 clear hL h11 h12 V
 replace B0 := B0.zw hY
 replace B1 := B1.zw hY
 replace B2 := B2.zw hY
 replace hb := hb.trans (hY.mono hb.size)
 clear hY
 simp only [Exit.then, e11, e0, e1, e2, e3, e4, e5, e6, e7, e8, e9, e10, e13]
 clear e11 e0 e1 e2 e3 e4 e5 e6 e7 e8 e9 e10 e13
 have B3 := hk1_11
 clear hk1_11
 have zk1_11_0 : w.heap.size < k1_11 := by omega
 have zk1_11_1 : w.heap.size + 1 < k1_11 := by omega
 have zk1_11_2 : w.heap.size + 1 + 1 < k1_11 := by omega
 clear lt_B0 lt_B1 lt_B2
 go_upto_region 2 with (fail)
 have lt_B0 : (w.heap.size) < W2.heap.size := B0.lt
 have lt_B1 : (w.heap.size + 1) < W2.heap.size := B1.lt
 have lt_B2 : (w.heap.size + 1 + 1) < W2.heap.size := B2.lt
 have lt_B3 : (k1_11) < W2.heap.size := B3.lt
 refine zq Try.mixed (by kernel_rfl) (by kernel_rfl) (fun v => by (simp only [frL, Act.put, pA, pB, pC, Nat.reduceAdd, Nat.zero_add]; exact rfl))
  (fun L v W3 => Below W2.heap.size W2 W3 ∧ (L 11 = true → AF (v 11) W3 W2.heap.size 512 26) ∧ (L 12 = true → PF (v 11) W3 W2.heap.size 512 26 (fl 64 ((muV p m F G).1))) ∧ VF L v [some (.int .i64 p), some (.agg (zb 64 (m))), some (.agg (zb 64 (m))), some (.agg (zb 512 (fl 64 F))), some (.agg (zb 512 (fl 64 F))), some (.agg (zb 512 (fl 64 G))), some (.agg (zb 512 (fl 64 G))), some (.tuple #[(.agg (zb 512 (fl 64 ((muV p m F G).1)))), (.int .i64 ((muV p m F G).2))]), some (.tuple #[(.agg (zb 512 (fl 64 ((muV p m F G).1)))), (.int .i64 ((muV p m F G).2))]), some (.agg (zb 512 (fl 64 ((muV p m F G).1)))), some (.int .i64 ((muV p m F G).2)), none, none, some (.int .i64 ((muV p m F G).2))]) ?_ ?_ ?_
 · intro v hv0
   exact ⟨(Below.refl _ W2).drew, (fun h => by cases h), (fun h => by cases h), VF.start⟩
 · refine (.cons rfl ?_ (.cons rfl ?_ (.cons rfl ?_ (.cons rfl ?_ (.cons rfl ?_ (.cons rfl ?_ (.cons rfl ?_ (.cons rfl ?_ (.cons rfl ?_ (.cons rfl ?_ (.cons rfl ?_ (.cons rfl ?_ (.cons rfl ?_ (.cons rfl ?_ (.nil _)))))))))))))))
   all_goals intro L v W3 hd hn ⟨hY, h11, h12, V⟩ K hK
   · go_wp2_with fail
     exact hK _ (.int .i64 p) _ (by simp only [Act.put, pA, pB, pC ]) ⟨hY, h11, h12, V.step 0 rfl⟩
   · refine zlc (B0.zw hY) Try.underlying22 Try.size22 ?_
     exact hK _ _ _ rfl ⟨hY, h11, h12, V.step 1 rfl⟩
   · have e1 := V.at (zdq hd 1 rfl) rfl
     go_wp2_with (go_at_call 28; refine (toPoly_any m hm _).mono ?_; rintro e wy ⟨rfl, hy⟩)
     exact hK _ (.agg (zb 64 (m))) _ (by simp only [Act.put, pA, pB, pC, e1]) ⟨hY.trans (hy.mono hY.size), (fun h => (h11 h).below hy), (fun h => (h12 h).below hy), V.step 2 rfl⟩
   · refine zlc (B1.zw hY) Try.underlying23 Try.size23 ?_
     exact hK _ _ _ rfl ⟨hY, h11, h12, V.step 3 rfl⟩
   · have e3 := V.at (zdq hd 3 rfl) rfl
     go_wp2_with (go_at_call 29; refine (toSkew_any F hF _).mono ?_; rintro e wy ⟨rfl, hy⟩)
     exact hK _ (.agg (zb 512 (fl 64 F))) _ (by simp only [Act.put, pA, pB, pC, e3]) ⟨hY.trans (hy.mono hY.size), (fun h => (h11 h).below hy), (fun h => (h12 h).below hy), V.step 4 rfl⟩
   · refine zlc (B2.zw hY) Try.underlying23 Try.size23 ?_
     exact hK _ _ _ rfl ⟨hY, h11, h12, V.step 5 rfl⟩
   · have e5 := V.at (zdq hd 5 rfl) rfl
     go_wp2_with (go_at_call 29; refine (toSkew_any G hG _).mono ?_; rintro e wy ⟨rfl, hy⟩)
     exact hK _ (.agg (zb 512 (fl 64 G))) _ (by simp only [Act.put, pA, pB, pC, e5]) ⟨hY.trans (hy.mono hY.size), (fun h => (h11 h).below hy), (fun h => (h12 h).below hy), V.step 6 rfl⟩
   · have e0 := V.at (zdq hd 0 rfl) rfl
     have e2 := V.at (zdq hd 2 rfl) rfl
     have e4 := V.at (zdq hd 4 rfl) rfl
     have e6 := V.at (zdq hd 6 rfl) rfl
     go_wp2_with (go_at_call 30; refine (impl_MultiplySkews_any p m F G hm hF hG _).mono ?_; rintro e wy ⟨rfl, hy⟩)
     exact hK _ (.tuple #[(.agg (zb 512 (fl 64 ((muV p m F G).1)))), (.int .i64 ((muV p m F G).2))]) _ (by simp only [Act.put, pA, pB, pC, e0, e2, e4, e6]) ⟨hY.trans (hy.mono hY.size), (fun h => (h11 h).below hy), (fun h => (h12 h).below hy), V.step 7 rfl⟩
   · have e7 := V.at (zdq hd 7 rfl) rfl
     go_wp2_with fail
     exact hK _ (.tuple #[(.agg (zb 512 (fl 64 ((muV p m F G).1)))), (.int .i64 ((muV p m F G).2))]) _ (by simp only [Act.put, pA, pB, pC, e7]) ⟨hY, h11, h12, V.step 8 rfl⟩
   · have e8 := V.at (zdq hd 8 rfl) rfl
     go_wp2_with fail
     exact hK _ (.agg (zb 512 (fl 64 ((muV p m F G).1)))) _ (by simp only [Act.put, pA, pB, pC, e8]) ⟨hY, h11, h12, V.step 9 rfl⟩
   · have e8 := V.at (zdq hd 8 rfl) rfl
     go_wp2_with fail
     exact hK _ (.int .i64 ((muV p m F G).2)) _ (by simp only [Act.put, pA, pB, pC, e8]) ⟨hY, h11, h12, V.step 10 rfl⟩
   · go_wp2_with fail
     rw [← zero512]
     exact hK _ (.pointer (some ⟨W3.heap.size, 0, none⟩)) _ (by simp only [Act.put, pA, pB, pC ]) ⟨hY.alloc hY.size _, (fun _ => (PF.new W3 512 26 _ hY.size).af), (fun h => absurd rfl (hn 12 _ rfl h ⟨11, .data⟩ (by simp) rfl)), V.skip 11 rfl⟩
   · have e9 := V.at (zdq hd 9 rfl) rfl
     obtain ⟨gz, b, ea, hN, hk⟩ := (h11 (zdq hd 11 rfl)).out
     refine zsb 26 _ _ rfl b 512 (fl 64 ((muV p m F G).1)) ea e9 26 gz hk Try.size26 ?_
     exact hK _ undef _ rfl ⟨zr hY hN _, (fun h => (h11 h).row hk), (fun _ => by rw [show updV v 12 undef 11 = v 11 from rfl, ea]; exact PF.row hk hN _), V.skip 12 rfl⟩
   have e10 := V.at (zdq hd 10 rfl) rfl
   go_wp2_with fail
   exact hK _ (.int .i64 ((muV p m F G).2)) _ (by simp only [Act.put, pA, pB, pC, e10]) ⟨hY, h11, h12, V.step 13 rfl⟩
 intro L v W3 hL ⟨hY, h11, h12, V⟩
 obtain ⟨k2_11, e11, hNk2_11, hk2_11⟩ := (h12 (hL 12 (by decide))).out
 have e0 := V.at (hL 0 (by decide)) rfl
 have e1 := V.at (hL 1 (by decide)) rfl
 have e2 := V.at (hL 2 (by decide)) rfl
 have e3 := V.at (hL 3 (by decide)) rfl
 have e4 := V.at (hL 4 (by decide)) rfl
 have e5 := V.at (hL 5 (by decide)) rfl
 have e6 := V.at (hL 6 (by decide)) rfl
 have e7 := V.at (hL 7 (by decide)) rfl
 have e8 := V.at (hL 8 (by decide)) rfl
 have e9 := V.at (hL 9 (by decide)) rfl
 have e10 := V.at (hL 10 (by decide)) rfl
 have e13 := V.at (hL 13 (by decide)) rfl
 clear hL h11 h12 V
 replace B0 := B0.zw hY
 replace B1 := B1.zw hY
 replace B2 := B2.zw hY
 replace B3 := B3.zw hY
 replace hb := hb.trans (hY.mono hb.size)
 clear hY
 simp only [Exit.then, e11, e0, e1, e2, e3, e4, e5, e6, e7, e8, e9, e10, e13]
 clear e11 e0 e1 e2 e3 e4 e5 e6 e7 e8 e9 e10 e13
 have B4 := hk2_11
 clear hk2_11
 have zk2_11_0 : w.heap.size < k2_11 := by omega
 have zk2_11_1 : w.heap.size + 1 < k2_11 := by omega
 have zk2_11_2 : w.heap.size + 1 + 1 < k2_11 := by omega
 have zk2_11_3 : k1_11 < k2_11 := by omega
 clear lt_B0 lt_B1 lt_B2 lt_B3
 go_upto_region 3 with (fail)
 go_wp2_with (first | (refine zla (.tmp 11) B4 Try.underlying26 Try.size26 ?_) | (refine zla (.tmp 9) B3 Try.underlying26 Try.size26 ?_) | (go_at_call 31; refine (eqSkew_same _ _ (fun _ _ _ _ => rfl) _).mono ?_; rintro e W4 ⟨rfl, hW4⟩; replace B0 := B0.zw hW4; replace B1 := B1.zw hW4; replace B2 := B2.zw hW4; replace B3 := B3.zw hW4; replace B4 := B4.zw hW4; replace hb := (hb).trans (hW4.mono (hb).size)))
 go_ret
 exact ⟨rfl, hb⟩
end Go.Proofs.Yteloknnooebabaa
