/-
  What the rows of this claim rest on: arrays of bytes, walks of the functions, plain mathematics.
-/
import Derived.Test.YteloknnooebabaaZm9
import Derived.Test.YteloknnooebabaaRows
import Derived.Great.BuildSlice
import Derived.WalkKit
import Derived.WalkSpells
import Derived.WalkLawsBesides
import Derived.Lib.Hide
import Derived.Laws.Rows
import Derived.Laws.CopyOwn
import Derived.Deep.QuietTactic
import Derived.Deep.WholeRow
import Derived.Deep.Draws
import Derived.Deep.MidRow
import Derived.Deep.CutRange
import Derived.Deep.DeepCutAuto
import Derived.Deep.RegionHeld3
import Derived.BigQuiet
import Derived.BigRegion
import Derived.Laws.Tables
import Derived.Laws.StructEq
import Derived.ScopeJumps
import Derived.OwnWalk
import Derived.RangeFuncNested
import Derived.RangeFuncBound
import Derived.RangeFuncCalls
import Derived.RangeFuncLeaves
import Derived.Shelf.Abstract
import Derived.Shelf.RegionOpen
import Derived.OwnWalkIn
import Derived.TacticsInMore
import Derived.LoopNIn
import Derived.LoopIn
import Derived.Deep.CutBlock
import Derived.Maps.OwnOps
import Derived.DeepKeys4
import Derived.Carry
import Derived.Test.YteloknnooebabaaProg
import Derived.Great.FillDense
import Derived.Handy
import Derived.Laws.MakeOwn
set_option maxRecDepth 100000
set_option maxHeartbeats 9000000
set_option linter.unusedVariables false
set_option linter.unusedSimpArgs false
namespace Go.Proofs.Yteloknnooebabaa
open Rg
def pwS (p : Nat) (m : Nat → Nat) (d : Nat) (F : Nat → Nat → Nat) : Nat → (Nat → Nat → Nat)
 | 0 => sng 0 oneP
 | j + 1 => tmP p m d (pwS p m d F j) F
theorem pwS_z (p : Nat) (m : Nat → Nat) (d : Nat) (F : Nat → Nat → Nat) : pwS p m d F 0 = sng 0 oneP := rfl
theorem pwS_s (p : Nat) (m : Nat → Nat) (d : Nat) (F : Nat → Nat → Nat) (j : Nat) : pwS p m d F (j + 1) = tmP p m d (pwS p m d F j) F := rfl
section
variable {p : Nat} {m : Nat → Nat} {d : Nat} (hp : p = 2 ∨ p = 3 ∨ p = 5 ∨ p = 7) (lm : ∀ k, k < 64 → m k < p) (hmon : mon m d) (hi : irr p (cut m) d) (h9 : d ≤ 9)
include hp lm hmon hi h9
theorem pwS_rsk {F : Nat → Nat → Nat} : ∀ j, rsk p m (pwS p m d F j)
 | 0 => sng_rsk hp lm hmon hi h9 0 (one_rsd hp lm hmon hi h9)
 | j + 1 => fun i _ => tmP_rsd hp lm (by rw [hmon.1]; omega) i
theorem pwS_deg {F : Nat → Nat → Nat} {n : Nat} (hF : rsk p m F) (hn : skD F = (n : Int)) : ∀ j, n * j ≤ 7 → skD (pwS p m d F j) = ((n * j : Nat) : Int)
 | 0, _ => by rw [pwS_z, sng_deg (by omega) (by rw [deg_one]; omega)]; rfl
 | j + 1, h => by
  have h2 : n * (j + 1) = n * j + n := by rw [Nat.mul_succ]
  rw [pwS_s, tmP_deg hp lm hmon hi h9 (pwS_rsk hp lm hmon hi h9 j) hF (pwS_deg hF hn j (by omega)) hn (by omega), h2]
theorem pwS_one {F : Nat → Nat → Nat} (hF : rsk p m F) : ∀ i, i < 8 → ∀ k, k < 64 → pwS p m d F 1 i k = F i k := by
 intro i hi8 k hk
 have h0 : 0 ≤ deg m := by rw [hmon.1]; omega
 rw [pwS_s, pwS_z, tmP_const hp lm hmon hi h9 (by rw [deg_one]; omega) hF i hi8 k hk]
 exact rsd_eq hp lm h0 (mm_rsd hp lm h0) (hF i hi8) (by rw [rs_mm hp lm h0, rs_oneP, emul]) k hk
theorem pwS_const {F : Nat → Nat → Nat} (hF : rsk p m F) (hn : skD F = 0) (j : Nat) (hj : j < 2 ^ 64) : ∀ i, i < 8 → ∀ k, k < 64 → pwS p m d F j i k = sng 0 (pmP p (F 0) j m) i k := by
 have h0 : 0 ≤ deg m := by rw [hmon.1]; omega
 have hd : ∀ j, skD (pwS p m d F j) = ((0 : Nat) : Int) := fun j => by
  rw [pwS_deg hp lm hmon hi h9 (n := 0) hF hn j (by omega), Nat.zero_mul]
 have hr : ∀ j, (rs (pwS p m d F j 0) : Res p (lz m)) = pw (rs (F 0)) j := by
  intro j
  induction j with
  | zero => rw [pwS_z, show sng 0 oneP 0 = oneP from updR_same _ _ _, rs_oneP]; rfl
  | succ j ih =>
   have h1 : (rs (pwS p m d F (j + 1) 0) : Res p (lz m)) = rs (mmP p (pwS p m d F j 0) (frN p m (F 0) (0 % d)) m) := rs_cong (fun k hk => by
    rw [pwS_s]
    exact tmP_top (a := 0) (b := 0) (by omega) (hd j) hn k hk)
   rw [h1, rs_mm hp lm h0, Nat.zero_mod, frN_z, ih, mcomm]; rfl
 intro i hi8 k hk
 by_cases h : i = 0
 · subst h
   rw [show sng 0 (pmP p (F 0) j m) 0 = pmP p (F 0) j m from updR_same _ _ _]
   obtain ⟨a, b, _⟩ := pmP_spec (k := j) hp (hF 0 (by omega)).1 lm h0 hj
   exact rsd_eq hp lm h0 (pwS_rsk hp lm hmon hi h9 j 0 (by omega)) ⟨a, b⟩ (by rw [hr j, rs_pm hp (hF 0 (by omega)).1 lm h0 hj]) k hk
 rw [show sng 0 (pmP p (F 0) j m) i = (fun _ => 0) from updR_other h]
 have h2 : skN (pwS p m d F j) 8 < (i : Int) := by have : skN (pwS p m d F j) 8 = skD (pwS p m d F j) := rfl; rw [this, hd j]; omega
 exact eqN_iff.1 (skN_spec _ 8 i hi8 h2) k hk
end
attribute [irreducible] pwS
end Go.Proofs.Yteloknnooebabaa
namespace Go.Proofs.Yteloknnooebabaa
open Go Go.RowKit
attribute [local irreducible] sng oneP
theorem l03One_any (w : World) : Calls Try.prog 99 #[] w fun e w' => e = .returned (.agg (zb 512 (fl 64 (sng 0 oneP)))) ∧ Below w.heap.size w w' := by
 go_enter Try.func99, Try.ntmps99
 go_upto_region 1 with (fail)
 rw [← zero512]
 obtain ⟨W1, hwo⟩ : ∃ v : World, v = (w.alloc (.cells (zb 512 (fl 64 (fun _ _ => 0))) 26)) := ⟨_, rfl⟩
 have B0 : Blk W1 (w.heap.size) 512 26 (fl 64 (fun _ _ => 0)) := by subst hwo; have := (Blk.new w 512 26 (fl 64 (fun _ _ => 0))); simpa using this
 have hb : Below w.heap.size w W1 := by subst hwo; exact ((Below.refl _ _).alloc (Nat.le_refl _) _)
 rw [← hwo]
 clear hwo
 go_wp2_with (first | rw [← z64] | rw [← zero512] | (go_at_call 128; refine (l01One_any _).mono ?_; rintro e W2 ⟨rfl, hW2⟩; replace B0 := B0.zw hW2; replace hb := (hb).trans (hW2.mono (hb).size)) | (refine zbo rfl 26 _ rfl (zb 512 (fl 64 (sng 0 oneP))) (by rw [Array.toList_map]; exact built_sk0 oneP) ?_) | (refine zsr (.tmp 0) (.tmp 2) (fl 64 (sng 0 oneP)) B0 Try.size26 ?_; try simp only [Act.put]))
 obtain ⟨W3, hwo, hzQ⟩ : ∃ v : World, v = (W2.setRow (w.heap.size) (zb 512 (fl 64 (sng 0 oneP)))) ∧ Blk v (w.heap.size) 512 26 (fl 64 (sng 0 oneP)) ∧ Below w.heap.size w v := ⟨_, rfl, (B0.row (fl 64 (sng 0 oneP))), (zr hb (by omega) _)⟩
 rw [← hwo]
 clear hwo B0 hb
 obtain ⟨B0, hb⟩ := hzQ
 try simp only [Act.put, pA, pB, pC]
 refine bodyPost_ret (results_any rfl _ _ _ 512 _ _ rfl B0 _ Try.underlying26 rfl Try.size26) rfl ⟨rfl, hb⟩
end Go.Proofs.Yteloknnooebabaa
namespace Go.Proofs.Yteloknnooebabaa
open Go Go.RowKit
attribute [local irreducible] deg addK okA flV skA skD sng oneP pmP
noncomputable def poV (p : Int) (m : Nat → Nat) (F : Nat → Nat → Nat) (k : Int) : (Nat → Nat → Nat) × Int := if ckS p m [F] = 0 then (if k < 0 ∨ 1000 < k then (fun _ _ => 0, 2) else if skD F * k ≤ 7 then (pwS p.toNat m (deg m).toNat F k.toNat, 0) else (fun _ _ => 0, 3)) else (fun _ _ => 0, 1)
theorem poV_0 {n d K : Nat} {m : Nat → Nat} {F : Nat → Nat → Nat} (h : ckS (n : Int) m [F] = 0) (hd : deg m = (d : Int)) (h2 : ¬ ((K : Int) < 0 ∨ 1000 < (K : Int))) (h3 : skD F * (K : Int) ≤ 7) : poV (n : Int) m F (K : Int) = (pwS n m d F K, 0) := by
 unfold poV; rw [if_pos h, if_neg h2, if_pos h3, hd]; rfl
theorem poV_3 {p k : Int} {m : Nat → Nat} {F : Nat → Nat → Nat} (h : ckS p m [F] = 0) (h2 : ¬ (k < 0 ∨ 1000 < k)) (h3 : ¬ skD F * k ≤ 7) : poV p m F k = (fun _ _ => 0, 3) := by unfold poV; rw [if_pos h, if_neg h2, if_neg h3]
theorem poV_2 {p k : Int} {m : Nat → Nat} {F : Nat → Nat → Nat} (h : ckS p m [F] = 0) (h2 : k < 0 ∨ 1000 < k) : poV p m F k = (fun _ _ => 0, 2) := by unfold poV; rw [if_pos h, if_pos h2]
theorem poV_1 {p k : Int} {m : Nat → Nat} {F : Nat → Nat → Nat} (h : ckS p m [F] = 1) : poV p m F k = (fun _ _ => 0, 1) := if_neg (by omega)
attribute [irreducible] poV
theorem pw_fit {p : Nat} {m : Nat → Nat} {d : Nat} {F : Nat → Nat → Nat} {K : Nat} (hp : p = 2 ∨ p = 3 ∨ p = 5 ∨ p = 7) (lm : ∀ k, k < 64 → m k < p) (hmon : mon m d) (hi : irr p (cut m) d) (h9 : d ≤ 9) (hF : rsk p m F) (h3 : skD F * (K : Int) ≤ 7) {j : Nat} (hj : j < K) : skD (pwS p m d F j) + skD F ≤ 7 := by
 obtain ⟨b1, b2⟩ := zsd F
 obtain ⟨c1, c2⟩ := zsd (pwS p m d F j)
 by_cases h : skD F < 0
 · omega
 obtain ⟨n, hn⟩ : ∃ n : Nat, skD F = (n : Int) := ⟨(skD F).toNat, by omega⟩
 rw [hn] at h3
 have h4 : n * K ≤ 7 := by exact_mod_cast h3
 have h5 : n * (j + 1) ≤ n * K := Nat.mul_le_mul_left n (by omega)
 rw [Nat.mul_succ] at h5
 rw [pwS_deg hp lm hmon hi h9 hF hn j (by omega), hn]
 have : ((n * j : Nat) : Int) + (n : Int) = ((n * j + n : Nat) : Int) := by push_cast; rfl
 rw [this]; omega
theorem mul_rng {x k : Int} (h1 : -1 ≤ x) (h2 : x ≤ 7) (h3 : 0 ≤ k) (h4 : k ≤ 1000) : -1000 ≤ x * k ∧ x * k ≤ 7000 := by
 rcases (show x = -1 ∨ x = 0 ∨ x = 1 ∨ x = 2 ∨ x = 3 ∨ x = 4 ∨ x = 5 ∨ x = 6 ∨ x = 7 by omega) with rfl | rfl | rfl | rfl | rfl | rfl | rfl | rfl | rfl <;> omega
theorem impl_PowerOfSkew_any (p : Int) (m : Nat → Nat) (F : Nat → Nat → Nat) (k : Int) (hm : byte m) (hF : ∀ i, byte (F i)) (w : World) :
 Calls Try.prog 33 #[.int .i64 p, .agg (zb 64 m), .agg (zb 512 (fl 64 F)), .int .i64 k] w fun e w' => e = .returned (.tuple #[.agg (zb 512 (fl 64 (poV p m F k).1)), .int .i64 (poV p m F k).2]) ∧ Below w.heap.size w w' := by
 go_enter Try.func33, Try.ntmps33
 go_upto_region 1 with (fail)
 rw [← zero512]
 obtain ⟨W1, hwo⟩ : ∃ v : World, v = (((w.alloc (.cells (zb 64 (m)) 24)).alloc (.cells (zb 512 (fl 64 F)) 26)).alloc (.cells (zb 512 (fl 64 (fun _ _ => 0))) 26)) := ⟨_, rfl⟩
 have B0 : Blk W1 (w.heap.size) 64 24 (m) := by subst hwo; have := (((Blk.new w 64 24 (m)).alloc (.cells (zb 512 (fl 64 F)) 26)).alloc (.cells (zb 512 (fl 64 (fun _ _ => 0))) 26)); simpa using this
 have B1 : Blk W1 (w.heap.size + 1) 512 26 (fl 64 F) := by subst hwo; have := ((Blk.new (w.alloc (.cells (zb 64 (m)) 24)) 512 26 (fl 64 F)).alloc (.cells (zb 512 (fl 64 (fun _ _ => 0))) 26)); simpa using this
 have B2 : Blk W1 (w.heap.size + 1 + 1) 512 26 (fl 64 (fun _ _ => 0)) := by subst hwo; have := (Blk.new ((w.alloc (.cells (zb 64 (m)) 24)).alloc (.cells (zb 512 (fl 64 F)) 26)) 512 26 (fl 64 (fun _ _ => 0))); simpa using this
 have hb : Below w.heap.size w W1 := by subst hwo; exact ((((Below.refl _ _).alloc (Nat.le_refl _) _).alloc (by simp) _).alloc (by simp; omega) _)
 rw [← hwo]
 clear hwo
 rcases ckS_two p m [F] with hc | hc
 · by_cases hk : k < 0 ∨ 1000 < k
   · have HV := Lib.hid (poV_2 hc hk)
     by_cases hk0 : k < 0
     · skip
       go_upto_region 4 with (first | (refine zla (.tmp 5) B0 Try.underlying24 Try.size24 ?_) | (refine zla (.tmp 6) B1 Try.underlying26 Try.size26 ?_) | (refine zbk rfl 170 _ [F] rfl 26 Try.underlying170 Try.elem26 (by simp) (by simp) rfl ?_; intro wa hps hba) | (go_at_call 94; refine (checkSkews_any _ m hm [F] (by simp [hF]) (by simp) _ _ hps).mono ?_; rintro e W2 ⟨rfl, hbb⟩; rw [hc]))
       have hBB : Below W1.heap.size W1 W2 := hba.trans (hbb.mono hba.size)
       replace B0 := B0.zw hBB
       replace B1 := B1.zw hBB
       replace B2 := B2.zw hBB
       replace hb := hb.trans (hBB.mono hb.size)
       clear hBB hba hbb hps
       clear hc hk
       go_upto_region 5 with (fail)
       have lt_B0 := B0.lt
       have lt_B1 := B1.lt
       have lt_B2 := B2.lt
       go_wp2_with (first | rw [← z64] | rw [← zero512] | (refine zsr (.tmp 8) (.tmp 27) (fl 64 (fun _ _ => 0)) B2 Try.size26 ?_; try simp only [Act.put]; go_wp2_with fail))
       obtain ⟨W3, hwo, hzQ⟩ : ∃ v : World, v = (W2.setRow (w.heap.size + 1 + 1) (zb 512 (fl 64 (fun _ _ => 0)))) ∧ Blk v (w.heap.size) 64 24 (m) ∧ Blk v (w.heap.size + 1) 512 26 (fl 64 F) ∧ Blk v (w.heap.size + 1 + 1) 512 26 (fl 64 (fun _ _ => 0)) ∧ Below w.heap.size w v := ⟨_, rfl, (B0.rowOther (by omega)), (B1.rowOther (by omega)), (B2.row (fl 64 (fun _ _ => 0))), (zr hb (by omega) _)⟩
       rw [← hwo]
       clear hwo B0 B1 B2 hb
       obtain ⟨B0, B1, B2, hb⟩ := hzQ
       try simp only [Act.put, pA, pB, pC]
       refine bodyPost_ret (zrt rfl _ _ _ 512 _ _ rfl B2 _ Try.underlying26 rfl Try.size26) rfl ⟨by first | (rw [HV.out]; rfl) | rw [HV.out], hb⟩
     have hk1 : k > 1000 := by omega
     go_upto_region 4 with (first | (refine zla (.tmp 5) B0 Try.underlying24 Try.size24 ?_) | (refine zla (.tmp 6) B1 Try.underlying26 Try.size26 ?_) | (refine zbk rfl 170 _ [F] rfl 26 Try.underlying170 Try.elem26 (by simp) (by simp) rfl ?_; intro wa hps hba) | (go_at_call 94; refine (checkSkews_any _ m hm [F] (by simp [hF]) (by simp) _ _ hps).mono ?_; rintro e W2 ⟨rfl, hbb⟩; rw [hc]))
     have hBB : Below W1.heap.size W1 W2 := hba.trans (hbb.mono hba.size)
     replace B0 := B0.zw hBB
     replace B1 := B1.zw hBB
     replace B2 := B2.zw hBB
     replace hb := hb.trans (hBB.mono hb.size)
     clear hBB hba hbb hps
     clear hc hk
     go_upto_region 5 with (fail)
     have lt_B0 := B0.lt
     have lt_B1 := B1.lt
     have lt_B2 := B2.lt
     go_wp2_with (first | rw [← z64] | rw [← zero512] | (refine zsr (.tmp 8) (.tmp 27) (fl 64 (fun _ _ => 0)) B2 Try.size26 ?_; try simp only [Act.put]; go_wp2_with fail))
     obtain ⟨W3, hwo, hzQ⟩ : ∃ v : World, v = (W2.setRow (w.heap.size + 1 + 1) (zb 512 (fl 64 (fun _ _ => 0)))) ∧ Blk v (w.heap.size) 64 24 (m) ∧ Blk v (w.heap.size + 1) 512 26 (fl 64 F) ∧ Blk v (w.heap.size + 1 + 1) 512 26 (fl 64 (fun _ _ => 0)) ∧ Below w.heap.size w v := ⟨_, rfl, (B0.rowOther (by omega)), (B1.rowOther (by omega)), (B2.row (fl 64 (fun _ _ => 0))), (zr hb (by omega) _)⟩
     rw [← hwo]
     clear hwo B0 B1 B2 hb
     obtain ⟨B0, B1, B2, hb⟩ := hzQ
     try simp only [Act.put, pA, pB, pC]
     refine bodyPost_ret (zrt rfl _ _ _ 512 _ _ rfl B2 _ Try.underlying26 rfl Try.size26) rfl ⟨by first | (rw [HV.out]; rfl) | rw [HV.out], hb⟩
   obtain ⟨K, rfl⟩ : ∃ K : Nat, k = (K : Int) := ⟨k.toNat, by omega⟩
   have hk0 : ¬ (K : Int) < 0 := by omega
   have hk1 : ¬ (K : Int) > 1000 := by omega
   by_cases hfit : skD F * (K : Int) ≤ 7
   · obtain ⟨n, rfl, hpr, lm, ⟨d, hmon, hd1, hd4⟩, hl⟩ := ckS_fld hc
     have hd := hmon.1
     have lF : ∀ i, i < 8 → ∀ j, j < 64 → F i j < n := fun i hi => (hl F (by simp) i hi).1
     have rF : rsk n m F := fun i hi => hl F (by simp) i hi
     have hirr := ckS_irr hc hmon
     obtain ⟨b1, b2⟩ := zsd F
     have HV := Lib.hid (poV_0 hc hd hk hfit)
     have HTI := Lib.hid (fun j (hj : j < K) W => skTimes_any n m (pwS n m d F j) F W hpr lm d hd hd1 (by omega) (fun i hi8 => (pwS_rsk hpr lm hmon hirr (by omega) j i hi8).1) rF (pw_fit hpr lm hmon hirr (by omega) rF hfit hj))
     have HZ := Lib.hid (pwS_z n m d F)
     have HS := Lib.hid (pwS_s n m d F)
     have hfitI : ¬ skD F * (K : Int) > 7 := by omega
     clear hl rF hirr hmon lm hpr hd lF hfit hk
     have hmr := mul_rng b1 b2 (show (0 : Int) ≤ (K : Int) by omega) (show (K : Int) ≤ 1000 by omega)
     obtain ⟨hmr1, hmr2⟩ := hmr
     go_upto_region 4 with (first | (refine zla (.tmp 5) B0 Try.underlying24 Try.size24 ?_) | (refine zla (.tmp 6) B1 Try.underlying26 Try.size26 ?_) | (refine zbk rfl 170 _ [F] rfl 26 Try.underlying170 Try.elem26 (by simp) (by simp) rfl ?_; intro wa hps hba) | (go_at_call 94; refine (checkSkews_any _ m hm [F] (by simp [hF]) (by simp) _ _ hps).mono ?_; rintro e W2 ⟨rfl, hbb⟩; rw [hc]))
     have hBB : Below W1.heap.size W1 W2 := hba.trans (hbb.mono hba.size)
     replace B0 := B0.zw hBB
     replace B1 := B1.zw hBB
     replace B2 := B2.zw hBB
     replace hb := hb.trans (hBB.mono hb.size)
     clear hBB hba hbb hps
     clear hc
     go_upto_region 6 with (fail)
     go_upto_region 8 with (first | (refine zla (.tmp 6) B1 Try.underlying26 Try.size26 ?_) | (go_at_call 95; refine (skDegree_any F _).mono ?_; rintro e W3 ⟨rfl, hW3⟩; replace B0 := B0.zw hW3; replace B1 := B1.zw hW3; replace B2 := B2.zw hW3; replace hb := (hb).trans (hW3.mono (hb).size)))
     have lt_B0 := B0.lt
     have lt_B1 := B1.lt
     have lt_B2 := B2.lt
     go_upto_region 9 with (first | rw [← z64] | rw [← zero512] | (refine zbo rfl 24 _ rfl (zb 64 oneP) (by rw [Array.toList_map]; exact built_one) ?_) | (refine zbo rfl 26 _ rfl (zb 512 (fl 64 (sng 0 oneP))) (by rw [Array.toList_map]; exact built_sk0 oneP) ?_) | (refine wpList_store_blk rfl 26 (.tmp 11) (.tmp 35) rfl _ 512 (fl 64 (sng 0 oneP)) rfl rfl 26 _ ((Blk.new W3 512 26 (fl 64 (fun _ _ => 0)))) Try.size26 ?_; try simp only [Act.put]))
     have lt_B0 := B0.lt
     have lt_B1 := B1.lt
     have lt_B2 := B2.lt
     have lhb := hb.size
     obtain ⟨W4, hwo, hzQ⟩ : ∃ v : World, v = ((W3.alloc (.cells (zb 512 (fl 64 (fun _ _ => 0))) 26)).setRow (W3.heap.size) (zb 512 (fl 64 (sng 0 oneP)))) ∧ Blk v (w.heap.size) 64 24 (m) ∧ Blk v (w.heap.size + 1) 512 26 (fl 64 F) ∧ Blk v (w.heap.size + 1 + 1) 512 26 (fl 64 (fun _ _ => 0)) ∧ Blk v (W3.heap.size) 512 26 (fl 64 (sng 0 oneP)) ∧ Below w.heap.size w v := ⟨_, rfl, ((B0.alloc (.cells (zb 512 (fl 64 (fun _ _ => 0))) 26)).rowOther (by omega)), ((B1.alloc (.cells (zb 512 (fl 64 (fun _ _ => 0))) 26)).rowOther (by omega)), ((B2.alloc (.cells (zb 512 (fl 64 (fun _ _ => 0))) 26)).rowOther (by omega)), ((Blk.new W3 512 26 (fl 64 (fun _ _ => 0))).row (fl 64 (sng 0 oneP))), (zr (hb.alloc (by have := hb.size; simp; omega) (.cells (zb 512 (fl 64 (fun _ _ => 0))) 26)) (by omega) _)⟩
     rw [← hwo]
     clear hwo B0 B1 B2 hb
     obtain ⟨B0, B1, B2, B3, hb⟩ := hzQ
     obtain ⟨N1, hNN⟩ : ∃ n : Nat, n = W3.heap.size := ⟨_, rfl⟩
     rw [← hNN] at lt_B0 lt_B1 lt_B2 lhb B3 ⊢
     clear hNN
     have zN1_0 := lt_B0
     have zN1_1 := lt_B1
     have zN1_2 := lt_B2
     have zN1 := lhb
     clear lt_B0 lt_B1 lt_B2 lhb
     try simp only [Act.put, pA, pB, pC]
     go_wp2_with fail
     go_loopw [37] (fun c wr => ∃ j : Nat, c = .int .i64 (j : Int) ∧ j ≤ K ∧ Below w.heap.size w wr ∧ Blk wr (w.heap.size) 64 24 m ∧ Blk wr (w.heap.size + 1) 512 26 (fl 64 F) ∧ Blk wr (w.heap.size + 1 + 1) 512 26 (fl 64 (fun _ _ => 0)) ∧ Blk wr (N1) 512 26 (fl 64 (pwS n m d F j))) (fun c _ => K - (intOf c).toNat)
     case atStart => exact ⟨0, rfl, Nat.zero_le _, hb, B0, B1, B2, by rw [HZ.out]; exact B3⟩
     case round =>
      clear hb B0 B1 B2 B3
      obtain ⟨j, rfl, hjK, hb, B0, B1, B2, B3⟩ := hrel
      by_cases hj : j < K
      · have hjI : (j : Int) < (K : Int) := by omega
        have HK1 := Lib.hid (HTI.out j hj)
        go_upto_region 11 with (fail)
        have lt_B0 := B0.lt
        have lt_B1 := B1.lt
        have lt_B2 := B2.lt
        have lt_B3 := B3.lt
        go_wp2_with (first | rw [← z64] | rw [← zero512] | (refine zla (.tmp 11) B3 Try.underlying26 Try.size26 ?_) | (refine zla (.tmp 5) B0 Try.underlying24 Try.size24 ?_) | (refine zbo rfl 96 _ rfl (fdC (n : Int) m).toArray (by rw [Array.toList_map]; exact built_fd (n : Int) m) ?_) | (refine zla (.tmp 6) B1 Try.underlying26 Try.size26 ?_) | (go_at_call 96; refine (HK1.out _).mono ?_; rintro e W5 ⟨rfl, hW5⟩; replace B0 := B0.zw hW5; replace B1 := B1.zw hW5; replace B2 := B2.zw hW5; replace B3 := B3.zw hW5; replace hb := (hb).trans (hW5.mono (hb).size)) | (refine zsr (.tmp 11) (.tmp 44) (fl 64 (tmP n m d (pwS n m d F j) F)) B3 Try.size26 ?_; try simp only [Act.put]))
        obtain ⟨W6, hwo, hzQ⟩ : ∃ v : World, v = (W5.setRow (N1) (zb 512 (fl 64 (tmP n m d (pwS n m d F j) F)))) ∧ Blk v (w.heap.size) 64 24 (m) ∧ Blk v (w.heap.size + 1) 512 26 (fl 64 F) ∧ Blk v (w.heap.size + 1 + 1) 512 26 (fl 64 (fun _ _ => 0)) ∧ Blk v (N1) 512 26 (fl 64 (tmP n m d (pwS n m d F j) F)) ∧ Below w.heap.size w v := ⟨_, rfl, (B0.rowOther (by omega)), (B1.rowOther (by omega)), (B2.rowOther (by omega)), (B3.row (fl 64 (tmP n m d (pwS n m d F j) F))), (zr hb (by omega) _)⟩
        rw [← hwo]
        clear hwo B0 B1 B2 B3 hb
        obtain ⟨B0, B1, B2, B3, hb⟩ := hzQ
        try simp only [Act.put, pA, pB, pC]
        go_roundw
        case rel => exact ⟨j + 1, by go_num, by omega, hb, B0, B1, B2, by rw [HS.out]; exact B3⟩
        case measure => simp [intOf] <;> omega
      have hjI : ¬ (j : Int) < (K : Int) := by omega
      obtain rfl : j = K := by omega
      go_upto_region 13 with (fail)
      have lt_B0 := B0.lt
      have lt_B1 := B1.lt
      have lt_B2 := B2.lt
      have lt_B3 := B3.lt
      go_wp2_with (first | rw [← z64] | rw [← zero512] | (refine zla (.tmp 11) B3 Try.underlying26 Try.size26 ?_) | (refine zsr (.tmp 8) (.tmp 46) (fl 64 (pwS n m d F j)) B2 Try.size26 ?_; try simp only [Act.put]; go_wp2_with fail))
      obtain ⟨W5, hwo, hzQ⟩ : ∃ v : World, v = (wr.setRow (w.heap.size + 1 + 1) (zb 512 (fl 64 (pwS n m d F j)))) ∧ Blk v (w.heap.size) 64 24 (m) ∧ Blk v (w.heap.size + 1) 512 26 (fl 64 F) ∧ Blk v (w.heap.size + 1 + 1) 512 26 (fl 64 (pwS n m d F j)) ∧ Blk v (N1) 512 26 (fl 64 (pwS n m d F j)) ∧ Below w.heap.size w v := ⟨_, rfl, (B0.rowOther (by omega)), (B1.rowOther (by omega)), (B2.row (fl 64 (pwS n m d F j))), (B3.rowOther (by omega)), (zr hb (by omega) _)⟩
      rw [← hwo]
      clear hwo B0 B1 B2 B3 hb
      obtain ⟨B0, B1, B2, B3, hb⟩ := hzQ
      try simp only [Act.put, pA, pB, pC]
      refine bodyPost_ret (zrt rfl _ _ _ 512 _ _ rfl B2 _ Try.underlying26 rfl Try.size26) rfl ⟨by first | (rw [HV.out]; rfl) | rw [HV.out], hb⟩
   have HV := Lib.hid (poV_3 hc hk hfit)
   have hfitI : skD F * (K : Int) > 7 := by omega
   obtain ⟨b1, b2⟩ := zsd F
   have hmr := mul_rng b1 b2 (show (0 : Int) ≤ (K : Int) by omega) (show (K : Int) ≤ 1000 by omega)
   obtain ⟨hmr1, hmr2⟩ := hmr
   go_upto_region 4 with (first | (refine zla (.tmp 5) B0 Try.underlying24 Try.size24 ?_) | (refine zla (.tmp 6) B1 Try.underlying26 Try.size26 ?_) | (refine zbk rfl 170 _ [F] rfl 26 Try.underlying170 Try.elem26 (by simp) (by simp) rfl ?_; intro wa hps hba) | (go_at_call 94; refine (checkSkews_any _ m hm [F] (by simp [hF]) (by simp) _ _ hps).mono ?_; rintro e W2 ⟨rfl, hbb⟩; rw [hc]))
   have hBB : Below W1.heap.size W1 W2 := hba.trans (hbb.mono hba.size)
   replace B0 := B0.zw hBB
   replace B1 := B1.zw hBB
   replace B2 := B2.zw hBB
   replace hb := hb.trans (hBB.mono hb.size)
   clear hBB hba hbb hps
   clear hc hfit hk
   go_upto_region 6 with (fail)
   go_upto_region 7 with (first | (refine zla (.tmp 6) B1 Try.underlying26 Try.size26 ?_) | (go_at_call 95; refine (skDegree_any F _).mono ?_; rintro e W3 ⟨rfl, hW3⟩; replace B0 := B0.zw hW3; replace B1 := B1.zw hW3; replace B2 := B2.zw hW3; replace hb := (hb).trans (hW3.mono (hb).size)))
   have lt_B0 := B0.lt
   have lt_B1 := B1.lt
   have lt_B2 := B2.lt
   go_wp2_with (first | rw [← z64] | rw [← zero512] | (refine zsr (.tmp 8) (.tmp 33) (fl 64 (fun _ _ => 0)) B2 Try.size26 ?_; try simp only [Act.put]; go_wp2_with fail))
   obtain ⟨W4, hwo, hzQ⟩ : ∃ v : World, v = (W3.setRow (w.heap.size + 1 + 1) (zb 512 (fl 64 (fun _ _ => 0)))) ∧ Blk v (w.heap.size) 64 24 (m) ∧ Blk v (w.heap.size + 1) 512 26 (fl 64 F) ∧ Blk v (w.heap.size + 1 + 1) 512 26 (fl 64 (fun _ _ => 0)) ∧ Below w.heap.size w v := ⟨_, rfl, (B0.rowOther (by omega)), (B1.rowOther (by omega)), (B2.row (fl 64 (fun _ _ => 0))), (zr hb (by omega) _)⟩
   rw [← hwo]
   clear hwo B0 B1 B2 hb
   obtain ⟨B0, B1, B2, hb⟩ := hzQ
   try simp only [Act.put, pA, pB, pC]
   refine bodyPost_ret (zrt rfl _ _ _ 512 _ _ rfl B2 _ Try.underlying26 rfl Try.size26) rfl ⟨by first | (rw [HV.out]; rfl) | rw [HV.out], hb⟩
 have HV := Lib.hid (poV_1 (k := k) hc)
 go_upto_region 3 with (first | (refine zla (.tmp 5) B0 Try.underlying24 Try.size24 ?_) | (refine zla (.tmp 6) B1 Try.underlying26 Try.size26 ?_) | (refine zbk rfl 170 _ [F] rfl 26 Try.underlying170 Try.elem26 (by simp) (by simp) rfl ?_; intro wa hps hba) | (go_at_call 94; refine (checkSkews_any _ m hm [F] (by simp [hF]) (by simp) _ _ hps).mono ?_; rintro e W2 ⟨rfl, hbb⟩; rw [hc]))
 have hBB : Below W1.heap.size W1 W2 := hba.trans (hbb.mono hba.size)
 replace B0 := B0.zw hBB
 replace B1 := B1.zw hBB
 replace B2 := B2.zw hBB
 replace hb := hb.trans (hBB.mono hb.size)
 clear hBB hba hbb hps
 clear hc
 have lt_B0 := B0.lt
 have lt_B1 := B1.lt
 have lt_B2 := B2.lt
 go_wp2_with (first | rw [← z64] | rw [← zero512] | (refine zsr (.tmp 8) (.tmp 19) (fl 64 (fun _ _ => 0)) B2 Try.size26 ?_; try simp only [Act.put]; go_wp2_with fail))
 obtain ⟨W3, hwo, hzQ⟩ : ∃ v : World, v = (W2.setRow (w.heap.size + 1 + 1) (zb 512 (fl 64 (fun _ _ => 0)))) ∧ Blk v (w.heap.size) 64 24 (m) ∧ Blk v (w.heap.size + 1) 512 26 (fl 64 F) ∧ Blk v (w.heap.size + 1 + 1) 512 26 (fl 64 (fun _ _ => 0)) ∧ Below w.heap.size w v := ⟨_, rfl, (B0.rowOther (by omega)), (B1.rowOther (by omega)), (B2.row (fl 64 (fun _ _ => 0))), (zr hb (by omega) _)⟩
 rw [← hwo]
 clear hwo B0 B1 B2 hb
 obtain ⟨B0, B1, B2, hb⟩ := hzQ
 try simp only [Act.put, pA, pB, pC]
 refine bodyPost_ret (zrt rfl _ _ _ 512 _ _ rfl B2 _ Try.underlying26 rfl Try.size26) rfl ⟨by first | (rw [HV.out]; rfl) | rw [HV.out], hb⟩
theorem spec_PowerOfSkew_any (p : Int) (m : Nat → Nat) (F : Nat → Nat → Nat) (k : Int) (hm : byte m) (hF : ∀ i, byte (F i)) (w : World) :
 Calls Try.prog 32 #[.int .i64 p, .agg (zb 64 m), .agg (zb 512 (fl 64 F)), .int .i64 k] w fun e w' => e = .returned (.tuple #[.agg (zb 512 (fl 64 (poV p m F k).1)), .int .i64 (poV p m F k).2]) ∧ Below w.heap.size w w' := by
 go_enter Try.func32, Try.ntmps32
 go_upto_region 1 with (fail)
 rw [← zero512]
 obtain ⟨W1, hwo⟩ : ∃ v : World, v = (((w.alloc (.cells (zb 64 (m)) 24)).alloc (.cells (zb 512 (fl 64 F)) 26)).alloc (.cells (zb 512 (fl 64 (fun _ _ => 0))) 26)) := ⟨_, rfl⟩
 have B0 : Blk W1 (w.heap.size) 64 24 (m) := by subst hwo; have := (((Blk.new w 64 24 (m)).alloc (.cells (zb 512 (fl 64 F)) 26)).alloc (.cells (zb 512 (fl 64 (fun _ _ => 0))) 26)); simpa using this
 have B1 : Blk W1 (w.heap.size + 1) 512 26 (fl 64 F) := by subst hwo; have := ((Blk.new (w.alloc (.cells (zb 64 (m)) 24)) 512 26 (fl 64 F)).alloc (.cells (zb 512 (fl 64 (fun _ _ => 0))) 26)); simpa using this
 have B2 : Blk W1 (w.heap.size + 1 + 1) 512 26 (fl 64 (fun _ _ => 0)) := by subst hwo; have := (Blk.new ((w.alloc (.cells (zb 64 (m)) 24)).alloc (.cells (zb 512 (fl 64 F)) 26)) 512 26 (fl 64 (fun _ _ => 0))); simpa using this
 have hb : Below w.heap.size w W1 := by subst hwo; exact ((((Below.refl _ _).alloc (Nat.le_refl _) _).alloc (by simp) _).alloc (by simp; omega) _)
 rw [← hwo]
 clear hwo
 rcases ckS_two p m [F] with hc | hc
 · by_cases hk : k < 0 ∨ 1000 < k
   · have HV := Lib.hid (poV_2 hc hk)
     have HIN := Lib.hid (show ∀ W, Calls Try.prog 98 #[.int .i64 k, .int .i64 0, .int .i64 1000] W fun e w' => e = .returned (.bool false) ∧ W = w' from fun W => by have h := l01In_any k 0 1000 W; rwa [show decide ((0 : Int) ≤ k ∧ k ≤ 1000) = false by first | (simp; done) | (simp; omega)] at h)
     go_upto_region 4 with (first | (refine zla (.tmp 5) B0 Try.underlying24 Try.size24 ?_) | (refine zla (.tmp 6) B1 Try.underlying26 Try.size26 ?_) | (refine zbk rfl 170 _ [F] rfl 26 Try.underlying170 Try.elem26 (by simp) (by simp) rfl ?_; intro wa hps hba) | (go_at_call 92; refine (l03Code_any _ m hm [F] (by simp [hF]) (by simp) _ _ hps).mono ?_; rintro e W2 ⟨rfl, hbb⟩; rw [hc]))
     have hBB : Below W1.heap.size W1 W2 := hba.trans (hbb.mono hba.size)
     replace B0 := B0.zw hBB
     replace B1 := B1.zw hBB
     replace B2 := B2.zw hBB
     replace hb := hb.trans (hBB.mono hb.size)
     clear hBB hba hbb hps
     clear hc
     go_upto_region 5 with (first | (refine zla (.tmp 6) B1 Try.underlying26 Try.size26 ?_) | (go_at_call 97; refine (l03Deg_any F _).mono ?_; rintro e W3 ⟨rfl, hW3⟩; replace B0 := B0.zw hW3; replace B1 := B1.zw hW3; replace B2 := B2.zw hW3; replace hb := (hb).trans (hW3.mono (hb).size)))
     go_upto_region 6 with (first | (go_at_call 98; refine (HIN.out _).mono ?_; rintro e wS ⟨rfl, rfl⟩))
     have lt_B0 := B0.lt
     have lt_B1 := B1.lt
     have lt_B2 := B2.lt
     go_wp2_with (first | rw [← z64] | rw [← zero512] | (refine zsr (.tmp 8) (.tmp 30) (fl 64 (fun _ _ => 0)) B2 Try.size26 ?_; try simp only [Act.put]; go_wp2_with fail))
     obtain ⟨W4, hwo, hzQ⟩ : ∃ v : World, v = (W3.setRow (w.heap.size + 1 + 1) (zb 512 (fl 64 (fun _ _ => 0)))) ∧ Blk v (w.heap.size) 64 24 (m) ∧ Blk v (w.heap.size + 1) 512 26 (fl 64 F) ∧ Blk v (w.heap.size + 1 + 1) 512 26 (fl 64 (fun _ _ => 0)) ∧ Below w.heap.size w v := ⟨_, rfl, (B0.rowOther (by omega)), (B1.rowOther (by omega)), (B2.row (fl 64 (fun _ _ => 0))), (zr hb (by omega) _)⟩
     rw [← hwo]
     clear hwo B0 B1 B2 hb
     obtain ⟨B0, B1, B2, hb⟩ := hzQ
     try simp only [Act.put, pA, pB, pC]
     refine bodyPost_ret (zrt rfl _ _ _ 512 _ _ rfl B2 _ Try.underlying26 rfl Try.size26) rfl ⟨by first | (rw [HV.out]; rfl) | rw [HV.out], hb⟩
   obtain ⟨K, rfl⟩ : ∃ K : Nat, k = (K : Int) := ⟨k.toNat, by omega⟩
   obtain ⟨b1, b2⟩ := zsd F
   by_cases hK0 : K = 0
   · subst hK0
     obtain ⟨n, rfl, hpr, lm, ⟨d, hmon, hd1, hd4⟩, hl⟩ := ckS_fld hc
     have hd := hmon.1
     have lF : ∀ i, i < 8 → ∀ j, j < 64 → F i j < n := fun i hi => (hl F (by simp) i hi).1
     have HV := Lib.hid (poV_0 (K := 0) hc hd hk (by simp))
     have HZ := Lib.hid (pwS_z n m d F)
     clear hl hmon lm hpr hd lF
     have HIN := Lib.hid (show ∀ W, Calls Try.prog 98 #[.int .i64 (0 : Int), .int .i64 0, .int .i64 1000] W fun e w' => e = .returned (.bool true) ∧ W = w' from fun W => by have h := l01In_any (0 : Int) 0 1000 W; rwa [show decide ((0 : Int) ≤ (0 : Int) ∧ (0 : Int) ≤ 1000) = true by first | (simp; done) | (simp; omega)] at h)
     try clear hk
     go_upto_region 4 with (first | (refine zla (.tmp 5) B0 Try.underlying24 Try.size24 ?_) | (refine zla (.tmp 6) B1 Try.underlying26 Try.size26 ?_) | (refine zbk rfl 170 _ [F] rfl 26 Try.underlying170 Try.elem26 (by simp) (by simp) rfl ?_; intro wa hps hba) | (go_at_call 92; refine (l03Code_any _ m hm [F] (by simp [hF]) (by simp) _ _ hps).mono ?_; rintro e W2 ⟨rfl, hbb⟩; rw [hc]))
     have hBB : Below W1.heap.size W1 W2 := hba.trans (hbb.mono hba.size)
     replace B0 := B0.zw hBB
     replace B1 := B1.zw hBB
     replace B2 := B2.zw hBB
     replace hb := hb.trans (hBB.mono hb.size)
     clear hBB hba hbb hps
     clear hc
     go_upto_region 5 with (first | (refine zla (.tmp 6) B1 Try.underlying26 Try.size26 ?_) | (go_at_call 97; refine (l03Deg_any F _).mono ?_; rintro e W3 ⟨rfl, hW3⟩; replace B0 := B0.zw hW3; replace B1 := B1.zw hW3; replace B2 := B2.zw hW3; replace hb := (hb).trans (hW3.mono (hb).size)))
     go_upto_region 7 with (first | (go_at_call 98; refine (HIN.out _).mono ?_; rintro e wS ⟨rfl, rfl⟩))
     go_upto_region 8 with (fail)
     have lt_B0 := B0.lt
     have lt_B1 := B1.lt
     have lt_B2 := B2.lt
     go_wp2_with (first | rw [← z64] | rw [← zero512] | (go_at_call 99; refine (l03One_any _).mono ?_; rintro e W4 ⟨rfl, hW4⟩; replace B0 := B0.zw hW4; replace B1 := B1.zw hW4; replace B2 := B2.zw hW4; replace hb := (hb).trans (hW4.mono (hb).size)) | (refine zsr (.tmp 8) (.tmp 34) (fl 64 (sng 0 oneP)) B2 Try.size26 ?_; try simp only [Act.put]; go_wp2_with fail))
     obtain ⟨W5, hwo, hzQ⟩ : ∃ v : World, v = (W4.setRow (w.heap.size + 1 + 1) (zb 512 (fl 64 (sng 0 oneP)))) ∧ Blk v (w.heap.size) 64 24 (m) ∧ Blk v (w.heap.size + 1) 512 26 (fl 64 F) ∧ Blk v (w.heap.size + 1 + 1) 512 26 (fl 64 (sng 0 oneP)) ∧ Below w.heap.size w v := ⟨_, rfl, (B0.rowOther (by omega)), (B1.rowOther (by omega)), (B2.row (fl 64 (sng 0 oneP))), (zr hb (by omega) _)⟩
     rw [← hwo]
     clear hwo B0 B1 B2 hb
     obtain ⟨B0, B1, B2, hb⟩ := hzQ
     try simp only [Act.put, pA, pB, pC]
     refine bodyPost_ret (zrt rfl _ _ _ 512 _ _ rfl B2 _ Try.underlying26 rfl Try.size26) rfl ⟨by first | (rw [HV.out, ← HZ.out]; done) | (rw [HV.out, ← HZ.out]; rfl), hb⟩
   have hKn : ¬ (K : Int) = 0 := by omega
   by_cases hn0 : skD F < 0
   · obtain ⟨n, rfl, hpr, lm, ⟨d, hmon, hd1, hd4⟩, hl⟩ := ckS_fld hc
     have hd := hmon.1
     have lF : ∀ i, i < 8 → ∀ j, j < 64 → F i j < n := fun i hi => (hl F (by simp) i hi).1
     have HV := Lib.hid (poV_0 hc hd hk (by have h1 : skD F = -1 := by omega
                                            rw [h1]; omega))
     have HZ := Lib.hid (show pwS n m d F K = fun _ _ => 0 by
      obtain ⟨J, rfl⟩ : ∃ J, K = J + 1 := ⟨K - 1, by omega⟩
      rw [pwS_s]; exact tmP_zero (.inr hn0))
     clear hl hmon lm hpr hd lF
     have HIN := Lib.hid (show ∀ W, Calls Try.prog 98 #[.int .i64 (K : Int), .int .i64 0, .int .i64 1000] W fun e w' => e = .returned (.bool true) ∧ W = w' from fun W => by have h := l01In_any (K : Int) 0 1000 W; rwa [show decide ((0 : Int) ≤ (K : Int) ∧ (K : Int) ≤ 1000) = true by first | (simp; done) | (simp; omega)] at h)
     try clear hk
     go_upto_region 4 with (first | (refine zla (.tmp 5) B0 Try.underlying24 Try.size24 ?_) | (refine zla (.tmp 6) B1 Try.underlying26 Try.size26 ?_) | (refine zbk rfl 170 _ [F] rfl 26 Try.underlying170 Try.elem26 (by simp) (by simp) rfl ?_; intro wa hps hba) | (go_at_call 92; refine (l03Code_any _ m hm [F] (by simp [hF]) (by simp) _ _ hps).mono ?_; rintro e W2 ⟨rfl, hbb⟩; rw [hc]))
     have hBB : Below W1.heap.size W1 W2 := hba.trans (hbb.mono hba.size)
     replace B0 := B0.zw hBB
     replace B1 := B1.zw hBB
     replace B2 := B2.zw hBB
     replace hb := hb.trans (hBB.mono hb.size)
     clear hBB hba hbb hps
     clear hc
     go_upto_region 5 with (first | (refine zla (.tmp 6) B1 Try.underlying26 Try.size26 ?_) | (go_at_call 97; refine (l03Deg_any F _).mono ?_; rintro e W3 ⟨rfl, hW3⟩; replace B0 := B0.zw hW3; replace B1 := B1.zw hW3; replace B2 := B2.zw hW3; replace hb := (hb).trans (hW3.mono (hb).size)))
     go_upto_region 7 with (first | (go_at_call 98; refine (HIN.out _).mono ?_; rintro e wS ⟨rfl, rfl⟩))
     go_upto_region 10 with (fail)
     have lt_B0 := B0.lt
     have lt_B1 := B1.lt
     have lt_B2 := B2.lt
     go_wp2_with (first | rw [← z64] | rw [← zero512] | (refine zsr (.tmp 8) (.tmp 38) (fl 64 (fun _ _ => 0)) B2 Try.size26 ?_; try simp only [Act.put]; go_wp2_with fail))
     obtain ⟨W4, hwo, hzQ⟩ : ∃ v : World, v = (W3.setRow (w.heap.size + 1 + 1) (zb 512 (fl 64 (fun _ _ => 0)))) ∧ Blk v (w.heap.size) 64 24 (m) ∧ Blk v (w.heap.size + 1) 512 26 (fl 64 F) ∧ Blk v (w.heap.size + 1 + 1) 512 26 (fl 64 (fun _ _ => 0)) ∧ Below w.heap.size w v := ⟨_, rfl, (B0.rowOther (by omega)), (B1.rowOther (by omega)), (B2.row (fl 64 (fun _ _ => 0))), (zr hb (by omega) _)⟩
     rw [← hwo]
     clear hwo B0 B1 B2 hb
     obtain ⟨B0, B1, B2, hb⟩ := hzQ
     try simp only [Act.put, pA, pB, pC]
     refine bodyPost_ret (zrt rfl _ _ _ 512 _ _ rfl B2 _ Try.underlying26 rfl Try.size26) rfl ⟨by first | (rw [HV.out, HZ.out]; done) | (rw [HV.out]; simp only [HZ.out]; done) | (rw [HV.out, HZ.out]; rfl), hb⟩
   by_cases hn1 : skD F = 0
   · obtain ⟨n, rfl, hpr, lm, ⟨d, hmon, hd1, hd4⟩, hl⟩ := ckS_fld hc
     have hd := hmon.1
     have lF : ∀ i, i < 8 → ∀ j, j < 64 → F i j < n := fun i hi => (hl F (by simp) i hi).1
     have rF : rsk n m F := fun i hi => hl F (by simp) i hi
     have hirr := ckS_irr hc hmon
     have h0 : 0 ≤ deg m := by omega
     have HV := Lib.hid (poV_0 hc hd hk (by rw [hn1]; omega))
     have HPM := Lib.hid (fun W => l01PowMod_any n (F 0) K m W hpr (rF 0 (by omega)).1 lm h0 (by omega))
     have HE := Lib.hid (zbc (n := 512) (fl_congr (n := 8) (c := 64) (by decide) (pwS_const hpr lm hmon hirr (by omega) rF hn1 K (by omega))))
     clear h0 hl rF hirr hmon lm hpr hd lF
     have HIN := Lib.hid (show ∀ W, Calls Try.prog 98 #[.int .i64 (K : Int), .int .i64 0, .int .i64 1000] W fun e w' => e = .returned (.bool true) ∧ W = w' from fun W => by have h := l01In_any (K : Int) 0 1000 W; rwa [show decide ((0 : Int) ≤ (K : Int) ∧ (K : Int) ≤ 1000) = true by first | (simp; done) | (simp; omega)] at h)
     try clear hk
     go_upto_region 4 with (first | (refine zla (.tmp 5) B0 Try.underlying24 Try.size24 ?_) | (refine zla (.tmp 6) B1 Try.underlying26 Try.size26 ?_) | (refine zbk rfl 170 _ [F] rfl 26 Try.underlying170 Try.elem26 (by simp) (by simp) rfl ?_; intro wa hps hba) | (go_at_call 92; refine (l03Code_any _ m hm [F] (by simp [hF]) (by simp) _ _ hps).mono ?_; rintro e W2 ⟨rfl, hbb⟩; rw [hc]))
     have hBB : Below W1.heap.size W1 W2 := hba.trans (hbb.mono hba.size)
     replace B0 := B0.zw hBB
     replace B1 := B1.zw hBB
     replace B2 := B2.zw hBB
     replace hb := hb.trans (hBB.mono hb.size)
     clear hBB hba hbb hps
     clear hc
     go_upto_region 5 with (first | (refine zla (.tmp 6) B1 Try.underlying26 Try.size26 ?_) | (go_at_call 97; refine (l03Deg_any F _).mono ?_; rintro e W3 ⟨rfl, hW3⟩; replace B0 := B0.zw hW3; replace B1 := B1.zw hW3; replace B2 := B2.zw hW3; replace hb := (hb).trans (hW3.mono (hb).size)))
     go_upto_region 7 with (first | (go_at_call 98; refine (HIN.out _).mono ?_; rintro e wS ⟨rfl, rfl⟩))
     go_upto_region 12 with (fail)
     have lt_B0 := B0.lt
     have lt_B1 := B1.lt
     have lt_B2 := B2.lt
     go_wp2_with (first | rw [← z64] | rw [← zero512] | (refine wpList_load_mid rfl 24 (.tmp 43) rfl _ (0 * 64) rfl (bl 64 (F 0)) _ ((B1).sk (by omega)) Try.underlying24 rfl (by rw [zl]; exact Try.size24) ?_) | (refine zla (.tmp 5) B0 Try.underlying24 Try.size24 ?_) | (go_at_call 100; refine (HPM.out _).mono ?_; rintro e W4 ⟨rfl, hW4⟩; replace B0 := B0.zw hW4; replace B1 := B1.zw hW4; replace B2 := B2.zw hW4; replace hb := (hb).trans (hW4.mono (hb).size)) | (refine zbo rfl 26 _ rfl (zb 512 (fl 64 (sng 0 (pmP n (F 0) K m)))) (by rw [Array.toList_map]; exact built_sk0 _) ?_) | (refine zsr (.tmp 8) (.tmp 48) (fl 64 (sng 0 (pmP n (F 0) K m))) B2 Try.size26 ?_; try simp only [Act.put]; go_wp2_with fail))
     obtain ⟨W5, hwo, hzQ⟩ : ∃ v : World, v = (W4.setRow (w.heap.size + 1 + 1) (zb 512 (fl 64 (sng 0 (pmP n (F 0) K m))))) ∧ Blk v (w.heap.size) 64 24 (m) ∧ Blk v (w.heap.size + 1) 512 26 (fl 64 F) ∧ Blk v (w.heap.size + 1 + 1) 512 26 (fl 64 (sng 0 (pmP n (F 0) K m))) ∧ Below w.heap.size w v := ⟨_, rfl, (B0.rowOther (by omega)), (B1.rowOther (by omega)), (B2.row (fl 64 (sng 0 (pmP n (F 0) K m)))), (zr hb (by omega) _)⟩
     rw [← hwo]
     clear hwo B0 B1 B2 hb
     obtain ⟨B0, B1, B2, hb⟩ := hzQ
     try simp only [Act.put, pA, pB, pC]
     refine bodyPost_ret (zrt rfl _ _ _ 512 _ _ rfl B2 _ Try.underlying26 rfl Try.size26) rfl ⟨by first | (rw [HV.out, HE.out]; done) | (rw [HV.out]; simp only [HE.out]; done) | (rw [HV.out, HE.out]; rfl), hb⟩
   have hmr := mul_rng b1 b2 (show (0 : Int) ≤ (K : Int) by omega) (show (K : Int) ≤ 1000 by omega)
   obtain ⟨hmr1, hmr2⟩ := hmr
   by_cases hfit : skD F * (K : Int) ≤ 7
   · obtain ⟨n, rfl, hpr, lm, ⟨d, hmon, hd1, hd4⟩, hl⟩ := ckS_fld hc
     have hd := hmon.1
     have lF : ∀ i, i < 8 → ∀ j, j < 64 → F i j < n := fun i hi => (hl F (by simp) i hi).1
     have rF : rsk n m F := fun i hi => hl F (by simp) i hi
     have hirr := ckS_irr hc hmon
     have HV := Lib.hid (poV_0 hc hd hk hfit)
     have HTI := Lib.hid (fun j (hj : j < K) W => l03Times_ok n m (pwS n m d F j) F W hpr lm d hd hd1 (by omega) (fun i hi8 => (pwS_rsk hpr lm hmon hirr (by omega) j i hi8).1) rF (pw_fit hpr lm hmon hirr (by omega) rF hfit hj))
     have H1 := Lib.hid (fl_congr (n := 8) (c := 64) (by decide) (fun i hi8 k hk => (pwS_one hpr lm hmon hirr (by omega) rF i hi8 k hk).symm))
     have HS := Lib.hid (pwS_s n m d F)
     have hfitI : ¬ skD F * (K : Int) > 7 := by omega
     have hKm : K ≤ 1000 := by omega
     clear hl rF hirr hmon lm hpr hd lF
     have HIN := Lib.hid (show ∀ W, Calls Try.prog 98 #[.int .i64 (K : Int), .int .i64 0, .int .i64 1000] W fun e w' => e = .returned (.bool true) ∧ W = w' from fun W => by have h := l01In_any (K : Int) 0 1000 W; rwa [show decide ((0 : Int) ≤ (K : Int) ∧ (K : Int) ≤ 1000) = true by first | (simp; done) | (simp; omega)] at h)
     try clear hk
     go_upto_region 4 with (first | (refine zla (.tmp 5) B0 Try.underlying24 Try.size24 ?_) | (refine zla (.tmp 6) B1 Try.underlying26 Try.size26 ?_) | (refine zbk rfl 170 _ [F] rfl 26 Try.underlying170 Try.elem26 (by simp) (by simp) rfl ?_; intro wa hps hba) | (go_at_call 92; refine (l03Code_any _ m hm [F] (by simp [hF]) (by simp) _ _ hps).mono ?_; rintro e W2 ⟨rfl, hbb⟩; rw [hc]))
     have hBB : Below W1.heap.size W1 W2 := hba.trans (hbb.mono hba.size)
     replace B0 := B0.zw hBB
     replace B1 := B1.zw hBB
     replace B2 := B2.zw hBB
     replace hb := hb.trans (hBB.mono hb.size)
     clear hBB hba hbb hps
     clear hc
     go_upto_region 5 with (first | (refine zla (.tmp 6) B1 Try.underlying26 Try.size26 ?_) | (go_at_call 97; refine (l03Deg_any F _).mono ?_; rintro e W3 ⟨rfl, hW3⟩; replace B0 := B0.zw hW3; replace B1 := B1.zw hW3; replace B2 := B2.zw hW3; replace hb := (hb).trans (hW3.mono (hb).size)))
     go_upto_region 7 with (first | (go_at_call 98; refine (HIN.out _).mono ?_; rintro e wS ⟨rfl, rfl⟩))
     go_upto_region 15 with (fail)
     have lt_B0 := B0.lt
     have lt_B1 := B1.lt
     have lt_B2 := B2.lt
     go_upto_region 16 with (first | rw [← z64] | rw [← zero512] | (refine zla (.tmp 6) B1 Try.underlying26 Try.size26 ?_) | (refine wpList_store_blk rfl 26 (.tmp 12) (.tmp 55) rfl _ 512 (fl 64 F) rfl rfl 26 _ ((Blk.new W3 512 26 (fl 64 (fun _ _ => 0)))) Try.size26 ?_; try simp only [Act.put]))
     have lt_B0 := B0.lt
     have lt_B1 := B1.lt
     have lt_B2 := B2.lt
     have lhb := hb.size
     obtain ⟨W4, hwo, hzQ⟩ : ∃ v : World, v = ((W3.alloc (.cells (zb 512 (fl 64 (fun _ _ => 0))) 26)).setRow (W3.heap.size) (zb 512 (fl 64 F))) ∧ Blk v (w.heap.size) 64 24 (m) ∧ Blk v (w.heap.size + 1) 512 26 (fl 64 F) ∧ Blk v (w.heap.size + 1 + 1) 512 26 (fl 64 (fun _ _ => 0)) ∧ Blk v (W3.heap.size) 512 26 (fl 64 F) ∧ Below w.heap.size w v := ⟨_, rfl, ((B0.alloc (.cells (zb 512 (fl 64 (fun _ _ => 0))) 26)).rowOther (by omega)), ((B1.alloc (.cells (zb 512 (fl 64 (fun _ _ => 0))) 26)).rowOther (by omega)), ((B2.alloc (.cells (zb 512 (fl 64 (fun _ _ => 0))) 26)).rowOther (by omega)), ((Blk.new W3 512 26 (fl 64 (fun _ _ => 0))).row (fl 64 F)), (zr (hb.alloc (by have := hb.size; simp; omega) (.cells (zb 512 (fl 64 (fun _ _ => 0))) 26)) (by omega) _)⟩
     rw [← hwo]
     clear hwo B0 B1 B2 hb
     obtain ⟨B0, B1, B2, B3, hb⟩ := hzQ
     obtain ⟨N1, hNN⟩ : ∃ n : Nat, n = W3.heap.size := ⟨_, rfl⟩
     rw [← hNN] at lt_B0 lt_B1 lt_B2 lhb B3 ⊢
     clear hNN
     have zN1_0 := lt_B0
     have zN1_1 := lt_B1
     have zN1_2 := lt_B2
     have zN1 := lhb
     clear lt_B0 lt_B1 lt_B2 lhb
     try simp only [Act.put, pA, pB, pC]
     go_wp2_with fail
     go_loopw [3] (fun c wr => ∃ i j : Nat, c = .int .i64 (i : Int) ∧ i + j = K + 1 ∧ 1 ≤ j ∧ 1 ≤ i ∧ Below w.heap.size w wr ∧ Blk wr (w.heap.size) 64 24 m ∧ Blk wr (w.heap.size + 1) 512 26 (fl 64 F) ∧ Blk wr (w.heap.size + 1 + 1) 512 26 (fl 64 (fun _ _ => 0)) ∧ Blk wr (N1) 512 26 (fl 64 (pwS n m d F j))) (fun c _ => (intOf c).toNat)
     case atStart => exact ⟨K, 1, rfl, by omega, by omega, by omega, hb, B0, B1, B2, B3.congr H1.out⟩
     case round =>
      clear hb B0 B1 B2 B3
      obtain ⟨i, j, rfl, hij, hj1, hi1, hb, B0, B1, B2, B3⟩ := hrel
      by_cases hi : 1 < i
      · have hiI : (i : Int) > 1 := by omega
        have hiK : i ≤ 1000 := by omega
        have HK1 := Lib.hid (HTI.out j (by omega))
        have Hij := Lib.hid hij
        clear hij
        go_upto_region 18 with (fail)
        have lt_B0 := B0.lt
        have lt_B1 := B1.lt
        have lt_B2 := B2.lt
        have lt_B3 := B3.lt
        go_upto_region 19 with (first | rw [← z64] | rw [← zero512] | (refine zla (.tmp 5) B0 Try.underlying24 Try.size24 ?_) | (refine zla (.tmp 12) B3 Try.underlying26 Try.size26 ?_) | (refine zla (.tmp 6) B1 Try.underlying26 Try.size26 ?_) | (go_at_call 93; refine (HK1.out _).mono ?_; rintro e W5 ⟨rfl, hW5⟩; replace B0 := B0.zw hW5; replace B1 := B1.zw hW5; replace B2 := B2.zw hW5; replace B3 := B3.zw hW5; replace hb := (hb).trans (hW5.mono (hb).size)) | (refine wpList_store_blk rfl 26 (.tmp 13) (.tmp 66) rfl _ 512 (fl 64 (tmP n m d (pwS n m d F j) F)) rfl rfl 26 _ ((Blk.new W5 512 26 (fl 64 (fun _ _ => 0)))) Try.size26 ?_; try simp only [Act.put]; go_upto_region 19 with (fail)))
        have lt_B0 := B0.lt
        have lt_B1 := B1.lt
        have lt_B2 := B2.lt
        have lt_B3 := B3.lt
        have lhb := hb.size
        obtain ⟨W6, hwo, hzQ⟩ : ∃ v : World, v = ((W5.alloc (.cells (zb 512 (fl 64 (fun _ _ => 0))) 26)).setRow (W5.heap.size) (zb 512 (fl 64 (tmP n m d (pwS n m d F j) F)))) ∧ Blk v (w.heap.size) 64 24 (m) ∧ Blk v (w.heap.size + 1) 512 26 (fl 64 F) ∧ Blk v (w.heap.size + 1 + 1) 512 26 (fl 64 (fun _ _ => 0)) ∧ Blk v (N1) 512 26 (fl 64 (pwS n m d F j)) ∧ Blk v (W5.heap.size) 512 26 (fl 64 (tmP n m d (pwS n m d F j) F)) ∧ Below w.heap.size w v := ⟨_, rfl, ((B0.alloc (.cells (zb 512 (fl 64 (fun _ _ => 0))) 26)).rowOther (by omega)), ((B1.alloc (.cells (zb 512 (fl 64 (fun _ _ => 0))) 26)).rowOther (by omega)), ((B2.alloc (.cells (zb 512 (fl 64 (fun _ _ => 0))) 26)).rowOther (by omega)), ((B3.alloc (.cells (zb 512 (fl 64 (fun _ _ => 0))) 26)).rowOther (by omega)), ((Blk.new W5 512 26 (fl 64 (fun _ _ => 0))).row (fl 64 (tmP n m d (pwS n m d F j) F))), (zr (hb.alloc (by have := hb.size; simp; omega) (.cells (zb 512 (fl 64 (fun _ _ => 0))) 26)) (by omega) _)⟩
        rw [← hwo]
        clear hwo B0 B1 B2 B3 hb
        obtain ⟨B0, B1, B2, B3, B4, hb⟩ := hzQ
        obtain ⟨N2, hNN⟩ : ∃ n : Nat, n = W5.heap.size := ⟨_, rfl⟩
        rw [← hNN] at lt_B0 lt_B1 lt_B2 lt_B3 lhb B4 ⊢
        clear hNN
        have zN2_0 := lt_B0
        have zN2_1 := lt_B1
        have zN2_2 := lt_B2
        have zN2_3 := lt_B3
        have zN2 := lhb
        clear lt_B0 lt_B1 lt_B2 lt_B3 lhb
        try simp only [Act.put, pA, pB, pC]
        have lt_B0 := B0.lt
        have lt_B1 := B1.lt
        have lt_B2 := B2.lt
        have lt_B3 := B3.lt
        have lt_B4 := B4.lt
        go_upto_region 17 with (first | rw [← z64] | rw [← zero512] | (refine zla (.tmp 13) B4 Try.underlying26 Try.size26 ?_) | (refine zsr (.tmp 12) (.tmp 68) (fl 64 (tmP n m d (pwS n m d F j) F)) B3 Try.size26 ?_; try simp only [Act.put]))
        obtain ⟨W7, hwo, hzQ⟩ : ∃ v : World, v = (W6.setRow (N1) (zb 512 (fl 64 (tmP n m d (pwS n m d F j) F)))) ∧ Blk v (w.heap.size) 64 24 (m) ∧ Blk v (w.heap.size + 1) 512 26 (fl 64 F) ∧ Blk v (w.heap.size + 1 + 1) 512 26 (fl 64 (fun _ _ => 0)) ∧ Blk v (N1) 512 26 (fl 64 (tmP n m d (pwS n m d F j) F)) ∧ Blk v (N2) 512 26 (fl 64 (tmP n m d (pwS n m d F j) F)) ∧ Below w.heap.size w v := ⟨_, rfl, (B0.rowOther (by omega)), (B1.rowOther (by omega)), (B2.rowOther (by omega)), (B3.row (fl 64 (tmP n m d (pwS n m d F j) F))), (B4.rowOther (by omega)), (zr hb (by omega) _)⟩
        rw [← hwo]
        clear hwo B0 B1 B2 B3 B4 hb
        obtain ⟨B0, B1, B2, B3, B4, hb⟩ := hzQ
        try simp only [Act.put, pA, pB, pC]
        obtain ⟨i, rfl⟩ : ∃ q, i = q + 1 := ⟨i - 1, by omega⟩
        go_wp2_with fail
        go_roundw
        case rel => exact ⟨i, j + 1, by go_num, by have := Hij.out; omega, by omega, by omega, hb, B0, B1, B2, by rw [HS.out]; exact B3⟩
        case measure => simp [intOf] <;> omega
      obtain rfl : i = 1 := by omega
      obtain rfl : j = K := by omega
      go_upto_region 20 with (fail)
      have lt_B0 := B0.lt
      have lt_B1 := B1.lt
      have lt_B2 := B2.lt
      have lt_B3 := B3.lt
      go_wp2_with (first | rw [← z64] | rw [← zero512] | (refine zla (.tmp 12) B3 Try.underlying26 Try.size26 ?_) | (refine zsr (.tmp 8) (.tmp 69) (fl 64 (pwS n m d F j)) B2 Try.size26 ?_; try simp only [Act.put]; go_wp2_with fail))
      obtain ⟨W5, hwo, hzQ⟩ : ∃ v : World, v = (wr.setRow (w.heap.size + 1 + 1) (zb 512 (fl 64 (pwS n m d F j)))) ∧ Blk v (w.heap.size) 64 24 (m) ∧ Blk v (w.heap.size + 1) 512 26 (fl 64 F) ∧ Blk v (w.heap.size + 1 + 1) 512 26 (fl 64 (pwS n m d F j)) ∧ Blk v (N1) 512 26 (fl 64 (pwS n m d F j)) ∧ Below w.heap.size w v := ⟨_, rfl, (B0.rowOther (by omega)), (B1.rowOther (by omega)), (B2.row (fl 64 (pwS n m d F j))), (B3.rowOther (by omega)), (zr hb (by omega) _)⟩
      rw [← hwo]
      clear hwo B0 B1 B2 B3 hb
      obtain ⟨B0, B1, B2, B3, hb⟩ := hzQ
      try simp only [Act.put, pA, pB, pC]
      refine bodyPost_ret (zrt rfl _ _ _ 512 _ _ rfl B2 _ Try.underlying26 rfl Try.size26) rfl ⟨by first | (rw [HV.out]; rfl) | rw [HV.out], hb⟩
   have HV := Lib.hid (poV_3 hc hk hfit)
   have hfitI : skD F * (K : Int) > 7 := by omega
   have HIN := Lib.hid (show ∀ W, Calls Try.prog 98 #[.int .i64 (K : Int), .int .i64 0, .int .i64 1000] W fun e w' => e = .returned (.bool true) ∧ W = w' from fun W => by have h := l01In_any (K : Int) 0 1000 W; rwa [show decide ((0 : Int) ≤ (K : Int) ∧ (K : Int) ≤ 1000) = true by first | (simp; done) | (simp; omega)] at h)
   go_upto_region 4 with (first | (refine zla (.tmp 5) B0 Try.underlying24 Try.size24 ?_) | (refine zla (.tmp 6) B1 Try.underlying26 Try.size26 ?_) | (refine zbk rfl 170 _ [F] rfl 26 Try.underlying170 Try.elem26 (by simp) (by simp) rfl ?_; intro wa hps hba) | (go_at_call 92; refine (l03Code_any _ m hm [F] (by simp [hF]) (by simp) _ _ hps).mono ?_; rintro e W2 ⟨rfl, hbb⟩; rw [hc]))
   have hBB : Below W1.heap.size W1 W2 := hba.trans (hbb.mono hba.size)
   replace B0 := B0.zw hBB
   replace B1 := B1.zw hBB
   replace B2 := B2.zw hBB
   replace hb := hb.trans (hBB.mono hb.size)
   clear hBB hba hbb hps
   clear hc hfit hk
   go_upto_region 5 with (first | (refine zla (.tmp 6) B1 Try.underlying26 Try.size26 ?_) | (go_at_call 97; refine (l03Deg_any F _).mono ?_; rintro e W3 ⟨rfl, hW3⟩; replace B0 := B0.zw hW3; replace B1 := B1.zw hW3; replace B2 := B2.zw hW3; replace hb := (hb).trans (hW3.mono (hb).size)))
   go_upto_region 7 with (first | (go_at_call 98; refine (HIN.out _).mono ?_; rintro e wS ⟨rfl, rfl⟩))
   go_upto_region 14 with (fail)
   have lt_B0 := B0.lt
   have lt_B1 := B1.lt
   have lt_B2 := B2.lt
   go_wp2_with (first | rw [← z64] | rw [← zero512] | (refine zsr (.tmp 8) (.tmp 54) (fl 64 (fun _ _ => 0)) B2 Try.size26 ?_; try simp only [Act.put]; go_wp2_with fail))
   obtain ⟨W4, hwo, hzQ⟩ : ∃ v : World, v = (W3.setRow (w.heap.size + 1 + 1) (zb 512 (fl 64 (fun _ _ => 0)))) ∧ Blk v (w.heap.size) 64 24 (m) ∧ Blk v (w.heap.size + 1) 512 26 (fl 64 F) ∧ Blk v (w.heap.size + 1 + 1) 512 26 (fl 64 (fun _ _ => 0)) ∧ Below w.heap.size w v := ⟨_, rfl, (B0.rowOther (by omega)), (B1.rowOther (by omega)), (B2.row (fl 64 (fun _ _ => 0))), (zr hb (by omega) _)⟩
   rw [← hwo]
   clear hwo B0 B1 B2 hb
   obtain ⟨B0, B1, B2, hb⟩ := hzQ
   try simp only [Act.put, pA, pB, pC]
   refine bodyPost_ret (zrt rfl _ _ _ 512 _ _ rfl B2 _ Try.underlying26 rfl Try.size26) rfl ⟨by first | (rw [HV.out]; rfl) | rw [HV.out], hb⟩
 have HV := Lib.hid (poV_1 (k := k) hc)
 go_upto_region 3 with (first | (refine zla (.tmp 5) B0 Try.underlying24 Try.size24 ?_) | (refine zla (.tmp 6) B1 Try.underlying26 Try.size26 ?_) | (refine zbk rfl 170 _ [F] rfl 26 Try.underlying170 Try.elem26 (by simp) (by simp) rfl ?_; intro wa hps hba) | (go_at_call 92; refine (l03Code_any _ m hm [F] (by simp [hF]) (by simp) _ _ hps).mono ?_; rintro e W2 ⟨rfl, hbb⟩; rw [hc]))
 have hBB : Below W1.heap.size W1 W2 := hba.trans (hbb.mono hba.size)
 replace B0 := B0.zw hBB
 replace B1 := B1.zw hBB
 replace B2 := B2.zw hBB
 replace hb := hb.trans (hBB.mono hb.size)
 clear hBB hba hbb hps
 clear hc
 go_wp2_with (first | rw [← z64] | rw [← zero512] | (refine zsr (.tmp 8) (.tmp 22) (fl 64 (fun _ _ => 0)) B2 Try.size26 ?_; try simp only [Act.put]; go_wp2_with fail))
 obtain ⟨W3, hwo, hzQ⟩ : ∃ v : World, v = (W2.setRow (w.heap.size + 1 + 1) (zb 512 (fl 64 (fun _ _ => 0)))) ∧ Blk v (w.heap.size) 64 24 (m) ∧ Blk v (w.heap.size + 1) 512 26 (fl 64 F) ∧ Blk v (w.heap.size + 1 + 1) 512 26 (fl 64 (fun _ _ => 0)) ∧ Below w.heap.size w v := ⟨_, rfl, (B0.rowOther (by omega)), (B1.rowOther (by omega)), (B2.row (fl 64 (fun _ _ => 0))), (zr hb (by omega) _)⟩
 rw [← hwo]
 clear hwo B0 B1 B2 hb
 obtain ⟨B0, B1, B2, hb⟩ := hzQ
 try simp only [Act.put, pA, pB, pC]
 refine bodyPost_ret (zrt rfl _ _ _ 512 _ _ rfl B2 _ Try.underlying26 rfl Try.size26) rfl ⟨by first | (rw [HV.out]; rfl) | rw [HV.out], hb⟩
end Go.Proofs.Yteloknnooebabaa
namespace Go.Proofs.Yteloknnooebabaa
open Go Go.RowKit
theorem FnExactPowerOfSkew_walk (p : Int) (m : Nat → Nat) (F : Nat → Nat → Nat) (k : Int) (hm : byte m) (hF : ∀ i, byte (F i)) (w : World) :
 Calls Try.prog 4 #[.int .i64 p, .agg (zb 64 m), .agg (zb 512 (fl 64 F)), .int .i64 k] w fun e w' => e = .returned (.bool true) ∧ Below w.heap.size w w' := by
 go_enter Try.func4, Try.ntmps4
 go_upto_region 1 with (fail)
 obtain ⟨W1, hwo⟩ : ∃ v : World, v = ((w.alloc (.cells (zb 64 (m)) 22)).alloc (.cells (zb 512 (fl 64 F)) 23)) := ⟨_, rfl⟩
 have B0 : Blk W1 (w.heap.size) 64 22 (m) := by subst hwo; have := ((Blk.new w 64 22 (m)).alloc (.cells (zb 512 (fl 64 F)) 23)); simpa using this
 have B1 : Blk W1 (w.heap.size + 1) 512 23 (fl 64 F) := by subst hwo; have := (Blk.new (w.alloc (.cells (zb 64 (m)) 22)) 512 23 (fl 64 F)); simpa using this
 have hb : Below w.heap.size w W1 := by subst hwo; exact (((Below.refl _ _).alloc (Nat.le_refl _) _).alloc (by simp) _)
 rw [← hwo]
 clear hwo
 have hne1 : (((poV p m F k).2) != ((poV p m F k).2)) = false := by simp
 have lt_B0 : (w.heap.size) < W1.heap.size := B0.lt
 have lt_B1 : (w.heap.size + 1) < W1.heap.size := B1.lt
 refine zq Try.mixed (by kernel_rfl) (by kernel_rfl) (fun v => by (simp only [frL, Act.put, pA, pB, pC, Nat.reduceAdd, Nat.zero_add]; exact rfl))
  (fun L v W2 => Below W1.heap.size W1 W2 ∧ (L 10 = true → AF (v 10) W2 W1.heap.size 512 26) ∧ (L 11 = true → PF (v 10) W2 W1.heap.size 512 26 (fl 64 ((poV p m F k).1))) ∧ VF L v [some (.int .i64 p), some (.agg (zb 64 (m))), some (.agg (zb 64 (m))), some (.agg (zb 512 (fl 64 F))), some (.agg (zb 512 (fl 64 F))), some (.int .i64 k), some (.tuple #[(.agg (zb 512 (fl 64 ((poV p m F k).1)))), (.int .i64 ((poV p m F k).2))]), some (.tuple #[(.agg (zb 512 (fl 64 ((poV p m F k).1)))), (.int .i64 ((poV p m F k).2))]), some (.agg (zb 512 (fl 64 ((poV p m F k).1)))), some (.int .i64 ((poV p m F k).2)), none, none, some (.int .i64 ((poV p m F k).2))]) ?_ ?_ ?_
 · intro v hv0
   exact ⟨(Below.refl _ W1).drew, (fun h => by cases h), (fun h => by cases h), VF.start⟩
 · refine (.cons rfl ?_ (.cons rfl ?_ (.cons rfl ?_ (.cons rfl ?_ (.cons rfl ?_ (.cons rfl ?_ (.cons rfl ?_ (.cons rfl ?_ (.cons rfl ?_ (.cons rfl ?_ (.cons rfl ?_ (.cons rfl ?_ (.cons rfl ?_ (.nil _))))))))))))))
   all_goals intro L v W2 hd hn ⟨hY, h10, h11, V⟩ K hK
   · go_wp2_with fail
     exact hK _ (.int .i64 p) _ (by simp only [Act.put, pA, pB, pC ]) ⟨hY, h10, h11, V.step 0 rfl⟩
   · refine zlc (B0.zw hY) Try.underlying22 Try.size22 ?_
     exact hK _ _ _ rfl ⟨hY, h10, h11, V.step 1 rfl⟩
   · have e1 := V.at (zdq hd 1 rfl) rfl
     go_wp2_with (go_at_call 28; refine (toPoly_any m hm _).mono ?_; rintro e wy ⟨rfl, hy⟩)
     exact hK _ (.agg (zb 64 (m))) _ (by simp only [Act.put, pA, pB, pC, e1]) ⟨hY.trans (hy.mono hY.size), (fun h => (h10 h).below hy), (fun h => (h11 h).below hy), V.step 2 rfl⟩
   · refine zlc (B1.zw hY) Try.underlying23 Try.size23 ?_
     exact hK _ _ _ rfl ⟨hY, h10, h11, V.step 3 rfl⟩
   · have e3 := V.at (zdq hd 3 rfl) rfl
     go_wp2_with (go_at_call 29; refine (toSkew_any F hF _).mono ?_; rintro e wy ⟨rfl, hy⟩)
     exact hK _ (.agg (zb 512 (fl 64 F))) _ (by simp only [Act.put, pA, pB, pC, e3]) ⟨hY.trans (hy.mono hY.size), (fun h => (h10 h).below hy), (fun h => (h11 h).below hy), V.step 4 rfl⟩
   · go_wp2_with fail
     exact hK _ (.int .i64 k) _ (by simp only [Act.put, pA, pB, pC ]) ⟨hY, h10, h11, V.step 5 rfl⟩
   · have e0 := V.at (zdq hd 0 rfl) rfl
     have e2 := V.at (zdq hd 2 rfl) rfl
     have e4 := V.at (zdq hd 4 rfl) rfl
     have e5 := V.at (zdq hd 5 rfl) rfl
     go_wp2_with (go_at_call 32; refine (spec_PowerOfSkew_any p m F k hm hF _).mono ?_; rintro e wy ⟨rfl, hy⟩)
     exact hK _ (.tuple #[(.agg (zb 512 (fl 64 ((poV p m F k).1)))), (.int .i64 ((poV p m F k).2))]) _ (by simp only [Act.put, pA, pB, pC, e0, e2, e4, e5]) ⟨hY.trans (hy.mono hY.size), (fun h => (h10 h).below hy), (fun h => (h11 h).below hy), V.step 6 rfl⟩
   · have e6 := V.at (zdq hd 6 rfl) rfl
     go_wp2_with fail
     exact hK _ (.tuple #[(.agg (zb 512 (fl 64 ((poV p m F k).1)))), (.int .i64 ((poV p m F k).2))]) _ (by simp only [Act.put, pA, pB, pC, e6]) ⟨hY, h10, h11, V.step 7 rfl⟩
   · have e7 := V.at (zdq hd 7 rfl) rfl
     go_wp2_with fail
     exact hK _ (.agg (zb 512 (fl 64 ((poV p m F k).1)))) _ (by simp only [Act.put, pA, pB, pC, e7]) ⟨hY, h10, h11, V.step 8 rfl⟩
   · have e7 := V.at (zdq hd 7 rfl) rfl
     go_wp2_with fail
     exact hK _ (.int .i64 ((poV p m F k).2)) _ (by simp only [Act.put, pA, pB, pC, e7]) ⟨hY, h10, h11, V.step 9 rfl⟩
   · go_wp2_with fail
     rw [← zero512]
     exact hK _ (.pointer (some ⟨W2.heap.size, 0, none⟩)) _ (by simp only [Act.put, pA, pB, pC ]) ⟨hY.alloc hY.size _, (fun _ => (PF.new W2 512 26 _ hY.size).af), (fun h => absurd rfl (hn 11 _ rfl h ⟨10, .data⟩ (by simp) rfl)), V.skip 10 rfl⟩
   · have e8 := V.at (zdq hd 8 rfl) rfl
     obtain ⟨gz, b, ea, hN, hk⟩ := (h10 (zdq hd 10 rfl)).out
     refine zsb 26 _ _ rfl b 512 (fl 64 ((poV p m F k).1)) ea e8 26 gz hk Try.size26 ?_
     exact hK _ undef _ rfl ⟨zr hY hN _, (fun h => (h10 h).row hk), (fun _ => by rw [show updV v 11 undef 10 = v 10 from rfl, ea]; exact PF.row hk hN _), V.skip 11 rfl⟩
   have e9 := V.at (zdq hd 9 rfl) rfl
   go_wp2_with fail
   exact hK _ (.int .i64 ((poV p m F k).2)) _ (by simp only [Act.put, pA, pB, pC, e9]) ⟨hY, h10, h11, V.step 12 rfl⟩
 intro L v W2 hL ⟨hY, h10, h11, V⟩
 obtain ⟨k1_10, e10, hNk1_10, hk1_10⟩ := (h11 (hL 11 (by decide))).out
 have e0 := V.at (hL 0 (by decide)) rfl
 have e1 := V.at (hL 1 (by decide)) rfl
 have e2 := V.at (hL 2 (by decide)) rfl
 have e3 := V.at (hL 3 (by decide)) rfl
 have e4 := V.at (hL 4 (by decide)) rfl
 have e5 := V.at (hL 5 (by decide)) rfl
 have e6 := V.at (hL 6 (by decide)) rfl
 have e7 := V.at (hL 7 (by decide)) rfl
 have e8 := V.at (hL 8 (by decide)) rfl
 have e9 := V.at (hL 9 (by decide)) rfl
 have e12 := V.at (hL 12 (by decide)) rfl
 clear hL h10 h11 V
 replace B0 := B0.zw hY
 replace B1 := B1.zw hY
 replace hb := hb.trans (hY.mono hb.size)
 clear hY
 simp only [Exit.then, e10, e0, e1, e2, e3, e4, e5, e6, e7, e8, e9, e12]
 clear e10 e0 e1 e2 e3 e4 e5 e6 e7 e8 e9 e12
 have B2 := hk1_10
 clear hk1_10
 have zk1_10_0 : w.heap.size < k1_10 := by omega
 have zk1_10_1 : w.heap.size + 1 < k1_10 := by omega
 clear lt_B0 lt_B1
 go_upto_region 2 with (fail)
 have lt_B0 : (w.heap.size) < W2.heap.size := B0.lt
 have lt_B1 : (w.heap.size + 1) < W2.heap.size := B1.lt
 have lt_B2 : (k1_10) < W2.heap.size := B2.lt
 refine zq Try.mixed (by kernel_rfl) (by kernel_rfl) (fun v => by (simp only [frL, Act.put, pA, pB, pC, Nat.reduceAdd, Nat.zero_add]; exact rfl))
  (fun L v W3 => Below W2.heap.size W2 W3 ∧ (L 10 = true → AF (v 10) W3 W2.heap.size 512 26) ∧ (L 11 = true → PF (v 10) W3 W2.heap.size 512 26 (fl 64 ((poV p m F k).1))) ∧ VF L v [some (.int .i64 p), some (.agg (zb 64 (m))), some (.agg (zb 64 (m))), some (.agg (zb 512 (fl 64 F))), some (.agg (zb 512 (fl 64 F))), some (.int .i64 k), some (.tuple #[(.agg (zb 512 (fl 64 ((poV p m F k).1)))), (.int .i64 ((poV p m F k).2))]), some (.tuple #[(.agg (zb 512 (fl 64 ((poV p m F k).1)))), (.int .i64 ((poV p m F k).2))]), some (.agg (zb 512 (fl 64 ((poV p m F k).1)))), some (.int .i64 ((poV p m F k).2)), none, none, some (.int .i64 ((poV p m F k).2))]) ?_ ?_ ?_
 · intro v hv0
   exact ⟨(Below.refl _ W2).drew, (fun h => by cases h), (fun h => by cases h), VF.start⟩
 · refine (.cons rfl ?_ (.cons rfl ?_ (.cons rfl ?_ (.cons rfl ?_ (.cons rfl ?_ (.cons rfl ?_ (.cons rfl ?_ (.cons rfl ?_ (.cons rfl ?_ (.cons rfl ?_ (.cons rfl ?_ (.cons rfl ?_ (.cons rfl ?_ (.nil _))))))))))))))
   all_goals intro L v W3 hd hn ⟨hY, h10, h11, V⟩ K hK
   · go_wp2_with fail
     exact hK _ (.int .i64 p) _ (by simp only [Act.put, pA, pB, pC ]) ⟨hY, h10, h11, V.step 0 rfl⟩
   · refine zlc (B0.zw hY) Try.underlying22 Try.size22 ?_
     exact hK _ _ _ rfl ⟨hY, h10, h11, V.step 1 rfl⟩
   · have e1 := V.at (zdq hd 1 rfl) rfl
     go_wp2_with (go_at_call 28; refine (toPoly_any m hm _).mono ?_; rintro e wy ⟨rfl, hy⟩)
     exact hK _ (.agg (zb 64 (m))) _ (by simp only [Act.put, pA, pB, pC, e1]) ⟨hY.trans (hy.mono hY.size), (fun h => (h10 h).below hy), (fun h => (h11 h).below hy), V.step 2 rfl⟩
   · refine zlc (B1.zw hY) Try.underlying23 Try.size23 ?_
     exact hK _ _ _ rfl ⟨hY, h10, h11, V.step 3 rfl⟩
   · have e3 := V.at (zdq hd 3 rfl) rfl
     go_wp2_with (go_at_call 29; refine (toSkew_any F hF _).mono ?_; rintro e wy ⟨rfl, hy⟩)
     exact hK _ (.agg (zb 512 (fl 64 F))) _ (by simp only [Act.put, pA, pB, pC, e3]) ⟨hY.trans (hy.mono hY.size), (fun h => (h10 h).below hy), (fun h => (h11 h).below hy), V.step 4 rfl⟩
   · go_wp2_with fail
     exact hK _ (.int .i64 k) _ (by simp only [Act.put, pA, pB, pC ]) ⟨hY, h10, h11, V.step 5 rfl⟩
   · have e0 := V.at (zdq hd 0 rfl) rfl
     have e2 := V.at (zdq hd 2 rfl) rfl
     have e4 := V.at (zdq hd 4 rfl) rfl
     have e5 := V.at (zdq hd 5 rfl) rfl
     go_wp2_with (go_at_call 33; refine (impl_PowerOfSkew_any p m F k hm hF _).mono ?_; rintro e wy ⟨rfl, hy⟩)
     exact hK _ (.tuple #[(.agg (zb 512 (fl 64 ((poV p m F k).1)))), (.int .i64 ((poV p m F k).2))]) _ (by simp only [Act.put, pA, pB, pC, e0, e2, e4, e5]) ⟨hY.trans (hy.mono hY.size), (fun h => (h10 h).below hy), (fun h => (h11 h).below hy), V.step 6 rfl⟩
   · have e6 := V.at (zdq hd 6 rfl) rfl
     go_wp2_with fail
     exact hK _ (.tuple #[(.agg (zb 512 (fl 64 ((poV p m F k).1)))), (.int .i64 ((poV p m F k).2))]) _ (by simp only [Act.put, pA, pB, pC, e6]) ⟨hY, h10, h11, V.step 7 rfl⟩
   · have e7 := V.at (zdq hd 7 rfl) rfl
     go_wp2_with fail
     exact hK _ (.agg (zb 512 (fl 64 ((poV p m F k).1)))) _ (by simp only [Act.put, pA, pB, pC, e7]) ⟨hY, h10, h11, V.step 8 rfl⟩
   · have e7 := V.at (zdq hd 7 rfl) rfl
     go_wp2_with fail
     exact hK _ (.int .i64 ((poV p m F k).2)) _ (by simp only [Act.put, pA, pB, pC, e7]) ⟨hY, h10, h11, V.step 9 rfl⟩
   · go_wp2_with fail
     rw [← zero512]
     exact hK _ (.pointer (some ⟨W3.heap.size, 0, none⟩)) _ (by simp only [Act.put, pA, pB, pC ]) ⟨hY.alloc hY.size _, (fun _ => (PF.new W3 512 26 _ hY.size).af), (fun h => absurd rfl (hn 11 _ rfl h ⟨10, .data⟩ (by simp) rfl)), V.skip 10 rfl⟩
   · have e8 := V.at (zdq hd 8 rfl) rfl
     obtain ⟨gz, b, ea, hN, hk⟩ := (h10 (zdq hd 10 rfl)).out
     refine zsb 26 _ _ rfl b 512 (fl 64 ((poV p m F k).1)) ea e8 26 gz hk Try.size26 ?_
     exact hK _ undef _ rfl ⟨zr hY hN _, (fun h => (h10 h).row hk), (fun _ => by rw [show updV v 11 undef 10 = v 10 from rfl, ea]; exact PF.row hk hN _), V.skip 11 rfl⟩
   have e9 := V.at (zdq hd 9 rfl) rfl
   go_wp2_with fail
   exact hK _ (.int .i64 ((poV p m F k).2)) _ (by simp only [Act.put, pA, pB, pC, e9]) ⟨hY, h10, h11, V.step 12 rfl⟩
 intro L v W3 hL ⟨hY, h10, h11, V⟩
 obtain ⟨k2_10, e10, hNk2_10, hk2_10⟩ := (h11 (hL 11 (by decide))).out
 have e0 := V.at (hL 0 (by decide)) rfl
 have e1 := V.at (hL 1 (by decide)) rfl
 have e2 := V.at (hL 2 (by decide)) rfl
 have e3 := V.at (hL 3 (by decide)) rfl
 have e4 := V.at (hL 4 (by decide)) rfl
 have e5 := V.at (hL 5 (by decide)) rfl
 have e6 := V.at (hL 6 (by decide)) rfl
 have e7 := V.at (hL 7 (by decide)) rfl
 have e8 := V.at (hL 8 (by decide)) rfl
 have e9 := V.at (hL 9 (by decide)) rfl
 have e12 := V.at (hL 12 (by decide)) rfl
 clear hL h10 h11 V
 replace B0 := B0.zw hY
 replace B1 := B1.zw hY
 replace B2 := B2.zw hY
 replace hb := hb.trans (hY.mono hb.size)
 clear hY
 simp only [Exit.then, e10, e0, e1, e2, e3, e4, e5, e6, e7, e8, e9, e12]
 clear e10 e0 e1 e2 e3 e4 e5 e6 e7 e8 e9 e12
 have B3 := hk2_10
 clear hk2_10
 have zk2_10_0 : w.heap.size < k2_10 := by omega
 have zk2_10_1 : w.heap.size + 1 < k2_10 := by omega
 have zk2_10_2 : k1_10 < k2_10 := by omega
 clear lt_B0 lt_B1 lt_B2
 go_upto_region 3 with (fail)
 go_wp2_with (first | (refine zla (.tmp 11) B3 Try.underlying26 Try.size26 ?_) | (refine zla (.tmp 9) B2 Try.underlying26 Try.size26 ?_) | (go_at_call 31; refine (eqSkew_same _ _ (fun _ _ _ _ => rfl) _).mono ?_; rintro e W4 ⟨rfl, hW4⟩; replace B0 := B0.zw hW4; replace B1 := B1.zw hW4; replace B2 := B2.zw hW4; replace B3 := B3.zw hW4; replace hb := (hb).trans (hW4.mono (hb).size)))
 go_ret
 exact ⟨rfl, hb⟩
end Go.Proofs.Yteloknnooebabaa
