/-
  What the rows of this claim rest on: arrays of bytes, walks of the functions, plain mathematics.
-/
import Derived.Test.YtobcdekochenfaaZu2
import Derived.Maps.OwnOps
import Derived.DeepKeys4
import Derived.Carry
import Derived.Test.YtobcdekochenfaaProg
import Derived.OwnWalk
import Derived.Deep.MidRow
import Derived.Great.BuildSlice
import Derived.RangeFuncNested
import Derived.RangeFuncBound
import Derived.RangeFuncCalls
import Derived.RangeFuncLeaves
import Derived.Shelf.Abstract
import Derived.Shelf.RegionOpen
import Derived.OwnWalkIn
import Derived.TacticsInMore
import Derived.LoopNIn
import Derived.LoopIn
import Derived.Deep.CutBlock
section
namespace Go.Proofs.Ytobcdekochenfaa
open Go.RowKit
set_option linter.unusedVariables false
set_option linter.unusedSimpArgs false
attribute [local irreducible] deg invN dS qS stp stpr quoP resP oneP upP upF hmR mmP shA
set_option maxRecDepth 100000 in
set_option maxHeartbeats 400000 in
theorem restOf_any (p : Nat) (f m : Nat → Nat) (w : World) (hpr : p = 2 ∨ p = 3 ∨ p = 5 ∨ p = 7) (lf : ∀ k, k < 64 → f k < p) (lm : ∀ k, k < 64 → m k < p) (h0 : 0 ≤ deg m) :
 Calls Try.prog 116 #[.int .i64 (p : Int), .agg (zb 64 f), .agg (zb 64 m)] w fun e w' => e = .returned (.agg (zb 64 (resP p f m))) ∧ Below w.heap.size w w' := by
 go_enter Try.func116, Try.ntmps116
 go_upto_region 1 with (fail)
 rw [← z64]
 obtain ⟨W1, hwo⟩ : ∃ v : World, v = (((w.alloc (.cells (zb 64 (f)) 23)).alloc (.cells (zb 64 (m)) 23)).alloc (.cells (zb 64 fun _ => 0) 23)) := ⟨_, rfl⟩
 have B0 : Blk W1 (w.heap.size) 64 23 (f) := by subst hwo; have := (((Blk.new w 64 23 (f)).alloc (.cells (zb 64 (m)) 23)).alloc (.cells (zb 64 fun _ => 0) 23)); simpa using this
 have B1 : Blk W1 (w.heap.size + 1) 64 23 (m) := by subst hwo; have := ((Blk.new (w.alloc (.cells (zb 64 (f)) 23)) 64 23 (m)).alloc (.cells (zb 64 fun _ => 0) 23)); simpa using this
 have B2 : Blk W1 (w.heap.size + 1 + 1) 64 23 (fun _ => 0) := by subst hwo; have := (Blk.new ((w.alloc (.cells (zb 64 (f)) 23)).alloc (.cells (zb 64 (m)) 23)) 64 23 (fun _ => 0)); simpa using this
 have hb : Below w.heap.size w W1 := by subst hwo; exact ((((Below.refl _ _).alloc (Nat.le_refl _) _).alloc (by simp) _).alloc (by simp; omega) _)
 rw [← hwo]
 clear hwo
 have lt_B0 := B0.lt
 have lt_B1 := B1.lt
 have lt_B2 := B2.lt
 go_upto_region 2 with (first | rw [← z64] | (refine zla (.tmp 4) B0 Try.underlying23 Try.size23 ?_) | (refine zla (.tmp 5) B1 Try.underlying23 Try.size23 ?_) | (go_at_call 165; refine (quotientAndRest_any p f m _ hpr lf lm h0).mono ?_; rintro e W2 ⟨rfl, hW2⟩; replace B0 := B0.zw hW2; replace B1 := B1.zw hW2; replace B2 := B2.zw hW2; replace hb := (hb).trans (hW2.mono (hb).size)) | (refine wpList_store_blk rfl 23 (.tmp 7) (.tmp 14) rfl _ 64 (quoP p f m) rfl rfl 23 _ (((Blk.new W2 64 23 (fun _ => 0)).alloc (.cells (zb 64 fun _ => 0) 23))) Try.size23 ?_; try simp only [Act.put]) | (refine wpList_store_blk rfl 23 (.tmp 8) (.tmp 15) rfl _ 64 (resP p f m) rfl rfl 23 _ (((show Blk ((W2.alloc (.cells (zb 64 fun _ => 0) 23)).alloc (.cells (zb 64 fun _ => 0) 23)) (W2.heap.size + 1) 64 23 (fun _ => 0) by have := Blk.new (W2.alloc (.cells (zb 64 fun _ => 0) 23)) 64 23 (fun _ => 0); simpa using this).rowOther (by omega))) Try.size23 ?_; try simp only [Act.put]))
 have lt_B0 := B0.lt
 have lt_B1 := B1.lt
 have lt_B2 := B2.lt
 have lhb := hb.size
 obtain ⟨W3, hwo, hzQ⟩ : ∃ v : World, v = ((((W2.alloc (.cells (zb 64 fun _ => 0) 23)).alloc (.cells (zb 64 fun _ => 0) 23)).setRow (W2.heap.size) (zb 64 (quoP p f m))).setRow (W2.heap.size + 1) (zb 64 (resP p f m))) ∧ Blk v (w.heap.size) 64 23 (f) ∧ Blk v (w.heap.size + 1) 64 23 (m) ∧ Blk v (w.heap.size + 1 + 1) 64 23 (fun _ => 0) ∧ Blk v (W2.heap.size) 64 23 (quoP p f m) ∧ Blk v (W2.heap.size + 1) 64 23 (resP p f m) ∧ Below w.heap.size w v := ⟨_, rfl, ((((B0.alloc (.cells (zb 64 fun _ => 0) 23)).alloc (.cells (zb 64 fun _ => 0) 23)).rowOther (by omega)).rowOther (by omega)), ((((B1.alloc (.cells (zb 64 fun _ => 0) 23)).alloc (.cells (zb 64 fun _ => 0) 23)).rowOther (by omega)).rowOther (by omega)), ((((B2.alloc (.cells (zb 64 fun _ => 0) 23)).alloc (.cells (zb 64 fun _ => 0) 23)).rowOther (by omega)).rowOther (by omega)), ((((Blk.new W2 64 23 (fun _ => 0)).alloc (.cells (zb 64 fun _ => 0) 23)).row (quoP p f m)).rowOther (by omega)), (((show Blk ((W2.alloc (.cells (zb 64 fun _ => 0) 23)).alloc (.cells (zb 64 fun _ => 0) 23)) (W2.heap.size + 1) 64 23 (fun _ => 0) by have := Blk.new (W2.alloc (.cells (zb 64 fun _ => 0) 23)) 64 23 (fun _ => 0); simpa using this).rowOther (by omega)).row (resP p f m)), (zr (zr ((hb.alloc (by have := hb.size; simp; omega) (.cells (zb 64 fun _ => 0) 23)).alloc (by have := hb.size; simp; omega) (.cells (zb 64 fun _ => 0) 23)) (by omega) _) (by omega) _)⟩
 rw [← hwo]
 clear hwo B0 B1 B2 hb
 obtain ⟨B0, B1, B2, B3, B4, hb⟩ := hzQ
 obtain ⟨N1, hNN⟩ : ∃ n : Nat, n = W2.heap.size := ⟨_, rfl⟩
 rw [← hNN] at lt_B0 lt_B1 lt_B2 lhb B3 B4 ⊢
 clear hNN
 have zN1_0 := lt_B0
 have zN1_1 := lt_B1
 have zN1_2 := lt_B2
 have zN1 := lhb
 clear lt_B0 lt_B1 lt_B2 lhb
 try simp only [Act.put, pA, pB, pC]
 have lt_B0 := B0.lt
 have lt_B1 := B1.lt
 have lt_B2 := B2.lt
 have lt_B3 := B3.lt
 have lt_B4 := B4.lt
 go_wp2_with (first | rw [← z64] | (refine zla (.tmp 8) B4 Try.underlying23 Try.size23 ?_) | (refine zsr (.tmp 6) (.tmp 16) (resP p f m) B2 Try.size23 ?_; try simp only [Act.put]))
 obtain ⟨W4, hwo, hzQ⟩ : ∃ v : World, v = (W3.setRow (w.heap.size + 1 + 1) (zb 64 (resP p f m))) ∧ Blk v (w.heap.size) 64 23 (f) ∧ Blk v (w.heap.size + 1) 64 23 (m) ∧ Blk v (w.heap.size + 1 + 1) 64 23 (resP p f m) ∧ Blk v (N1) 64 23 (quoP p f m) ∧ Blk v (N1 + 1) 64 23 (resP p f m) ∧ Below w.heap.size w v := ⟨_, rfl, (B0.rowOther (by omega)), (B1.rowOther (by omega)), (B2.row (resP p f m)), (B3.rowOther (by omega)), (B4.rowOther (by omega)), (zr hb (by omega) _)⟩
 rw [← hwo]
 clear hwo B0 B1 B2 B3 B4 hb
 obtain ⟨B0, B1, B2, B3, B4, hb⟩ := hzQ
 try simp only [Act.put, pA, pB, pC]
 refine bodyPost_ret (zrb rfl _ _ _ 64 23 5 _ rfl B2 Try.underlying23 Try.size23) rfl ⟨rfl, hb⟩
set_option maxRecDepth 100000 in
set_option maxHeartbeats 1600000 in
theorem l01Up_any (p : Nat) (f m : Nat → Nat) (w : World) (hpr : p = 2 ∨ p = 3 ∨ p = 5 ∨ p = 7) (lf : ∀ k, k < 64 → f k < p) (lm : ∀ k, k < 64 → m k < p) (h0 : 0 ≤ deg m) :
 Calls Try.prog 174 #[.int .i64 (p : Int), .agg (zb 64 f), .agg (zb 64 m)] w fun e w' => e = .returned (.agg (zb 64 (upP p f m))) ∧ Below w.heap.size w w' := by
 have p2 : 2 ≤ p := by omega
 have p7 : p ≤ 7 := by omega
 obtain ⟨d, hd⟩ : ∃ d : Nat, deg m = (d : Int) := ⟨(deg m).toNat, by omega⟩
 obtain ⟨d6, md, _⟩ := deg_top hd
 have HD := Lib.hid hd
 clear h0 hd
 go_enter Try.func174, Try.ntmps174
 go_upto_region 1 with (fail)
 rw [← z64]
 obtain ⟨W1, hwo⟩ : ∃ v : World, v = (((w.alloc (.cells (zb 64 (f)) 23)).alloc (.cells (zb 64 (m)) 23)).alloc (.cells (zb 64 fun _ => 0) 23)) := ⟨_, rfl⟩
 have B0 : Blk W1 (w.heap.size) 64 23 (f) := by subst hwo; have := (((Blk.new w 64 23 (f)).alloc (.cells (zb 64 (m)) 23)).alloc (.cells (zb 64 fun _ => 0) 23)); simpa using this
 have B1 : Blk W1 (w.heap.size + 1) 64 23 (m) := by subst hwo; have := ((Blk.new (w.alloc (.cells (zb 64 (f)) 23)) 64 23 (m)).alloc (.cells (zb 64 fun _ => 0) 23)); simpa using this
 have B2 : Blk W1 (w.heap.size + 1 + 1) 64 23 (fun _ => 0) := by subst hwo; have := (Blk.new ((w.alloc (.cells (zb 64 (f)) 23)).alloc (.cells (zb 64 (m)) 23)) 64 23 (fun _ => 0)); simpa using this
 have hb : Below w.heap.size w W1 := by subst hwo; exact ((((Below.refl _ _).alloc (Nat.le_refl _) _).alloc (by simp) _).alloc (by simp; omega) _)
 rw [← hwo]
 clear hwo
 go_upto_region 2 with (first | (refine zla (.tmp 5) B1 Try.underlying23 Try.size23 ?_) | (go_at_call 74; refine (l01Deg_any m _).mono ?_; rintro e W2 ⟨rfl, hW2⟩; replace B0 := B0.zw hW2; replace B1 := B1.zw hW2; replace B2 := B2.zw hW2; replace hb := (hb).trans (hW2.mono (hb).size); rw [HD.out]))
 by_cases hd0 : d = 0
 · have HV := Lib.hid (show zb 64 (upP p f m) = zb 64 (fun _ => 0) from zbc (fun i _ => by unfold upP; rw [HD.out, if_neg (by omega)]))
   subst hd0
   go_upto_region 3 with (fail)
   have lt_B0 := B0.lt
   have lt_B1 := B1.lt
   have lt_B2 := B2.lt
   go_wp2_with (first | rw [← z64] | (refine zsr (.tmp 6) (.tmp 17) (fun _ => 0) B2 Try.size23 ?_; try simp only [Act.put]))
   obtain ⟨W3, hwo, hzQ⟩ : ∃ v : World, v = (W2.setRow (w.heap.size + 1 + 1) (zb 64 (fun _ => 0))) ∧ Blk v (w.heap.size) 64 23 (f) ∧ Blk v (w.heap.size + 1) 64 23 (m) ∧ Blk v (w.heap.size + 1 + 1) 64 23 (fun _ => 0) ∧ Below w.heap.size w v := ⟨_, rfl, (B0.rowOther (by omega)), (B1.rowOther (by omega)), (B2.row (fun _ => 0)), (zr hb (by omega) _)⟩
   rw [← hwo]
   clear hwo B0 B1 B2 hb
   obtain ⟨B0, B1, B2, hb⟩ := hzQ
   try simp only [Act.put, pA, pB, pC]
   refine bodyPost_ret (zrb rfl _ _ _ 64 23 5 _ rfl B2 Try.underlying23 Try.size23) rfl ⟨by rw [HV.out], hb⟩
 · obtain ⟨D, rfl⟩ : ∃ D, d = D + 1 := ⟨d - 1, by omega⟩
   have e1 : ((D + 1 : Nat) : Int) = (D : Int) + 1 := by push_cast; rfl
   have HE := Lib.hid e1
   rw [e1]
   clear e1
   have cc := B0.cell (i := D) (by omega)
   have hfD := lf D (by omega)
   go_upto_region 4 with (fail)
   have lt_B0 := B0.lt
   have lt_B1 := B1.lt
   have lt_B2 := B2.lt
   go_upto_region 5 with (first | rw [← z64] | (refine wpList_store_blk rfl 23 (.tmp 9) (.tmp 23) rfl _ 64 (fun _ => 0) rfl rfl 23 _ ((Blk.new W2 64 23 (fun _ => 0))) Try.size23 ?_; try simp only [Act.put]))
   have lt_B0 := B0.lt
   have lt_B1 := B1.lt
   have lt_B2 := B2.lt
   have lhb := hb.size
   obtain ⟨W3, hwo, hzQ⟩ : ∃ v : World, v = ((W2.alloc (.cells (zb 64 fun _ => 0) 23)).setRow (W2.heap.size) (zb 64 (fun _ => 0))) ∧ Blk v (w.heap.size) 64 23 (f) ∧ Blk v (w.heap.size + 1) 64 23 (m) ∧ Blk v (w.heap.size + 1 + 1) 64 23 (fun _ => 0) ∧ Blk v (W2.heap.size) 64 23 (fun _ => 0) ∧ Below w.heap.size w v := ⟨_, rfl, ((B0.alloc (.cells (zb 64 fun _ => 0) 23)).rowOther (by omega)), ((B1.alloc (.cells (zb 64 fun _ => 0) 23)).rowOther (by omega)), ((B2.alloc (.cells (zb 64 fun _ => 0) 23)).rowOther (by omega)), ((Blk.new W2 64 23 (fun _ => 0)).row (fun _ => 0)), (zr (hb.alloc (by have := hb.size; simp; omega) (.cells (zb 64 fun _ => 0) 23)) (by omega) _)⟩
   rw [← hwo]
   clear hwo B0 B1 B2 hb
   obtain ⟨B0, B1, B2, B3, hb⟩ := hzQ
   obtain ⟨N1, hNN⟩ : ∃ n : Nat, n = W2.heap.size := ⟨_, rfl⟩
   rw [← hNN] at lt_B0 lt_B1 lt_B2 lhb B3 ⊢
   clear hNN
   have zN1_0 := lt_B0
   have zN1_1 := lt_B1
   have zN1_2 := lt_B2
   have zN1 := lhb
   clear lt_B0 lt_B1 lt_B2 lhb
   try simp only [Act.put, pA, pB, pC]
   clear cc
   go_wp2_with fail
   go_loopw [10] (fun i wr => ∃ k : Nat, 1 ≤ k ∧ k ≤ D + 1 ∧ i = .int .i64 (k : Int) ∧ Below w.heap.size w wr ∧ Blk wr w.heap.size 64 23 f ∧ Blk wr (w.heap.size + 1) 64 23 m ∧ Blk wr (w.heap.size + 1 + 1) 64 23 (fun _ => 0) ∧ Blk wr N1 64 23 (shA f k)) (fun i _ => D + 1 - (intOf i).toNat)
   case atStart => exact ⟨1, by omega, by omega, rfl, hb, B0, B1, B2, B3.congr (fun i _ => by unfold shA; rw [if_neg (by omega)])⟩
   case round =>
    clear hb B0 B1 B2 B3
    obtain ⟨k, hk1, hk2, rfl, hb, B0, B1, B2, B3⟩ := hrel
    by_cases hlt : k < D + 1
    · obtain ⟨j, rfl⟩ : ∃ j, k = j + 1 := ⟨k - 1, by omega⟩
      have c1 := B0.cell (i := j) (by omega)
      have c2 := B3.cell (i := j + 1) (by omega)
      have z2 := B3.frozen (j + 1)
      have hfj := lf j (by omega)
      have e1 : ((j + 1 : Nat) : Int) = (j : Int) + 1 := by push_cast; rfl
      have HJ := Lib.hid e1
      rw [e1]
      clear e1
      have hltI : (j : Int) + 1 < (D : Int) + 1 := by omega
      go_wp2_with fail
      go_roundw
      case rel =>
       refine ⟨j + 1 + 1, by omega, by omega, by rw [show ((j + 1 + 1 : Nat) : Int) = (j : Int) + 1 + 1 by omega], hb.setCell (by simp; omega) _, B0.setOther (by simp; omega), B1.setOther (by simp; omega), B2.setOther (by simp; omega), ?_⟩
       refine (B3.set (v := f j) rfl).congr (fun i _ => ?_)
       unfold upd shA
       by_cases h : i = j + 1
       · subst h; rw [if_pos rfl, if_pos (by omega), show j + 1 - 1 = j by omega]
       · rw [if_neg h]
         by_cases h2 : 1 ≤ i ∧ i < j + 1
         · rw [if_pos h2, if_pos (by omega)]
         · rw [if_neg h2, if_neg (by omega)]
      case measure => simp [intOf] <;> omega
    · obtain rfl : k = D + 1 := by omega
      have cm := B1.cell (i := D + 1) (by omega)
      have hmD := lm (D + 1) d6
      obtain ⟨iv1, iv2, iv3, _⟩ := invF hpr md hmD
      obtain ⟨inv, hinv⟩ : ∃ v, v = invN p (m (D + 1)) := ⟨_, rfl⟩
      have HN := Lib.hid (fun W => l01Inverse_any p (m (D + 1)) W hpr md hmD)
      rw [← hinv] at iv1 iv2 iv3 HN
      obtain ⟨m1, m2⟩ := small_nat_mul p7 hfD iv2
      obtain ⟨F, hF⟩ : ∃ F, F = f D * inv % p := ⟨_, rfl⟩
      have hFp : F < p := by rw [hF]; exact Nat.mod_lt _ (by omega)
      have hFe : ((f D : Int) * (inv : Int)).tmod (p : Int) = (F : Int) := by rw [hF, Int.tmod_eq_emod_of_nonneg m2]; push_cast; rfl
      have hFe2 : (f D : Int) * (inv : Int) % (p : Int) = (F : Int) := by rw [hF]; push_cast; rfl
      have HUF := Lib.hid (show upF p f m = F by unfold upF; rw [HD.out, Int.toNat_natCast, ← hinv, hF]; rfl)
      have HI := Lib.hid (And.intro hinv hF)
      clear hinv hF iv3
      go_wp2_with (go_at_call 179; refine (HN.out _).mono ?_; rintro e wS ⟨rfl, rfl⟩)
      clear cm hFe hFe2 m1 m2 HN
      go_loopw [12] (fun i wr => ∃ k : Nat, k ≤ D + 1 ∧ i = .int .i64 (k : Int) ∧ Below w.heap.size w wr ∧ Blk wr w.heap.size 64 23 f ∧ Blk wr (w.heap.size + 1) 64 23 m ∧ Blk wr (w.heap.size + 1 + 1) 64 23 (fun _ => 0) ∧ Blk wr N1 64 23 (fun i => if i < k then upP p f m i else shA f (D + 1) i)) (fun i _ => D + 1 - (intOf i).toNat)
      case atStart => exact ⟨0, by omega, rfl, hb, B0, B1, B2, B3.congr (fun i _ => by rw [if_neg (by omega)])⟩
      case round =>
       clear hb B0 B1 B2 B3
       obtain ⟨k, hk, rfl, hb, B0, B1, B2, B3⟩ := hrel
       by_cases hlt : k < D + 1
       · have c4 := B3.cell (i := k) (by omega)
         rw [if_neg (Nat.lt_irrefl k)] at c4
         have c5 := B1.cell (i := k) (by omega)
         have z4 := B3.frozen k
         obtain ⟨A, hA⟩ : ∃ A, A = shA f (D + 1) k := ⟨_, rfl⟩
         obtain ⟨M, hM⟩ : ∃ M, M = m k := ⟨_, rfl⟩
         have hAp : A < p := by
          rw [hA]; unfold shA; split
          · exact lf _ (by omega)
          · omega
         have hMp : M < p := by rw [hM]; exact lm k (by omega)
         have HU := Lib.hid (show upP p f m k = (A + (p - F) * M) % p by
          unfold upP; rw [HD.out, if_pos (by omega), Int.toNat_natCast, HUF.out, hA, hM])
         rw [← hA] at c4
         rw [← hM] at c5
         clear hA hM
         obtain ⟨m1, m2⟩ := small_nat_mul p7 hFp hMp
         have t1 : -(p : Int) < ((A : Int) - (F : Int) * (M : Int)).tmod p := by
          have := Int.tmod_lt_of_pos (-((A : Int) - (F : Int) * (M : Int))) (b := (p : Int)) (by omega)
          rw [Int.neg_tmod] at this; omega
         have t2 : ((A : Int) - (F : Int) * (M : Int)).tmod p < (p : Int) := Int.tmod_lt_of_pos _ (by omega)
         have hX : Hid (((A : Int) - (F : Int) * (M : Int)).tmod p % p % 256 = (upP p f m k : Int)) := by
          have e1 : ((A : Int) - (F : Int) * (M : Int)).tmod p % p = ((A : Int) - (F : Int) * (M : Int)) % p := by rw [Int.tmod_def, Int.sub_mul_emod_self_left]
          have e2 := Int.emod_nonneg ((A : Int) - (F : Int) * (M : Int)) (b := (p : Int)) (by omega)
          have e3 := Int.emod_lt_of_pos ((A : Int) - (F : Int) * (M : Int)) (b := (p : Int)) (by omega)
          rw [HU.out, e1, ← take_off (by omega : F ≤ p)]
          exact Int.emod_eq_of_lt e2 (by omega)
         have hm0 : (0 : Int) ≤ ((A : Int) - (F : Int) * (M : Int)).tmod p + p := by omega
         have hltI : (k : Int) < (D : Int) + 1 := by omega
         go_wp2_with fail
         go_region
         go_wp2_with fail
         go_roundw
         case rel =>
          refine ⟨k + 1, by omega, by go_num, (hb.setCell (by simp; omega) _).drew, (B0.setOther (by simp; omega)).drew, (B1.setOther (by simp; omega)).drew, (B2.setOther (by simp; omega)).drew, ?_⟩
          exact ((B3.set (v := upP p f m k) hX.out).congr (fun i _ => upd_lt (a := upP p f m) rfl i)).drew
         case measure => simp [intOf] <;> omega
       · obtain rfl : k = D + 1 := by omega
         have HV := Lib.hid (show zb 64 (fun i => if i < D + 1 then upP p f m i else shA f (D + 1) i) = zb 64 (upP p f m) from zbc (fun i _ => by
          by_cases h : i < D + 1
          · rw [if_pos h]
          · rw [if_neg h]; unfold shA upP; rw [if_neg (by omega), HD.out, if_neg (by omega)]))
         have hltI : ¬ ((D : Int) + 1 < (D : Int) + 1) := by omega
         rw [show (((D + 1 : Nat) : Int)) = (D : Int) + 1 by push_cast; rfl]
         go_wp2_with (first | (refine zla (.tmp 9) B3 Try.underlying23 Try.size23 ?_) | (refine wpList_store_blk rfl 23 (.tmp 6) (.tmp 70) rfl _ 64 _ rfl rfl 23 _ B2 Try.size23 ?_))
         refine bodyPost_ret (zrb rfl _ _ _ 64 23 5 _ rfl (B2.row _) Try.underlying23 Try.size23) rfl ⟨by rw [HV.out], zr hb (by omega) _⟩
end Go.Proofs.Ytobcdekochenfaa
end
section
namespace Go.Proofs.Ytobcdekochenfaa
open Go.RowKit
set_option linter.unusedVariables false
set_option linter.unusedSimpArgs false
attribute [local irreducible] deg invN dS qS stp stpr quoP resP oneP upP upF hmR mmP shA addK
set_option maxRecDepth 100000 in
set_option maxHeartbeats 1600000 in
theorem l01MulMod_any (p : Nat) (f g m : Nat → Nat) (w : World) (hpr : p = 2 ∨ p = 3 ∨ p = 5 ∨ p = 7) (lf : ∀ k, k < 64 → f k < p) (lg : ∀ k, k < 64 → g k < p) (lm : ∀ k, k < 64 → m k < p) (h0 : 0 ≤ deg m) :
 Calls Try.prog 132 #[.int .i64 (p : Int), .agg (zb 64 f), .agg (zb 64 g), .agg (zb 64 m)] w fun e w' => e = .returned (.agg (zb 64 (mmP p f g m))) ∧ Below w.heap.size w w' := by
 have p0 : 0 < p := by omega
 have p2 : 2 ≤ p := by omega
 have p7 : p ≤ 7 := by omega
 obtain ⟨gb1, gb2⟩ := zdb g
 obtain ⟨NN, hNN⟩ : ∃ NN : Nat, deg g + 1 = (NN : Int) := ⟨(deg g + 1).toNat, by omega⟩
 have HD := Lib.hid (show deg g = (NN : Int) - 1 by omega)
 have HV := Lib.hid (zbc (hmR_mmP (a := f) hpr lf lm h0 hNN))
 have HS := Lib.hid (fun j (hj : j ≤ NN - 1 + 1) => hmR_spec (n := NN - 1) (b := g) hpr lf lm h0 j hj)
 have hN6 : NN ≤ 64 := by omega
 have HUP := Lib.hid (fun (a : Nat → Nat) (ha : ∀ k, k < 64 → a k < p) W => l01Up_any p a m W hpr ha lm h0)
 have HMO := Lib.hid (fun (a : Nat → Nat) (ha : ∀ k, k < 64 → a k < p) W => l01Mod_any p a m W hpr ha lm h0)
 clear hNN
 go_enter Try.func132, Try.ntmps132
 go_upto_region 1 with (fail)
 rw [← z64]
 obtain ⟨W1, hwo⟩ : ∃ v : World, v = ((((w.alloc (.cells (zb 64 (f)) 23)).alloc (.cells (zb 64 (g)) 23)).alloc (.cells (zb 64 (m)) 23)).alloc (.cells (zb 64 fun _ => 0) 23)) := ⟨_, rfl⟩
 have B0 : Blk W1 (w.heap.size) 64 23 (f) := by subst hwo; have := ((((Blk.new w 64 23 (f)).alloc (.cells (zb 64 (g)) 23)).alloc (.cells (zb 64 (m)) 23)).alloc (.cells (zb 64 fun _ => 0) 23)); simpa using this
 have B1 : Blk W1 (w.heap.size + 1) 64 23 (g) := by subst hwo; have := (((Blk.new (w.alloc (.cells (zb 64 (f)) 23)) 64 23 (g)).alloc (.cells (zb 64 (m)) 23)).alloc (.cells (zb 64 fun _ => 0) 23)); simpa using this
 have B2 : Blk W1 (w.heap.size + 1 + 1) 64 23 (m) := by subst hwo; have := ((Blk.new ((w.alloc (.cells (zb 64 (f)) 23)).alloc (.cells (zb 64 (g)) 23)) 64 23 (m)).alloc (.cells (zb 64 fun _ => 0) 23)); simpa using this
 have B3 : Blk W1 (w.heap.size + 1 + 1 + 1) 64 23 (fun _ => 0) := by subst hwo; have := (Blk.new (((w.alloc (.cells (zb 64 (f)) 23)).alloc (.cells (zb 64 (g)) 23)).alloc (.cells (zb 64 (m)) 23)) 64 23 (fun _ => 0)); simpa using this
 have hb : Below w.heap.size w W1 := by subst hwo; exact (((((Below.refl _ _).alloc (Nat.le_refl _) _).alloc (by simp) _).alloc (by simp; omega) _).alloc (by simp; omega) _)
 rw [← hwo]
 clear hwo
 have lt_B0 := B0.lt
 have lt_B1 := B1.lt
 have lt_B2 := B2.lt
 have lt_B3 := B3.lt
 go_upto_region 2 with (first | rw [← z64] | (refine wpList_store_blk rfl 23 (.tmp 9) (.tmp 11) rfl _ 64 (fun _ => 0) rfl rfl 23 _ ((Blk.new W1 64 23 (fun _ => 0))) Try.size23 ?_; try simp only [Act.put]))
 have lt_B0 := B0.lt
 have lt_B1 := B1.lt
 have lt_B2 := B2.lt
 have lt_B3 := B3.lt
 have lhb := hb.size
 obtain ⟨W2, hwo, hzQ⟩ : ∃ v : World, v = ((W1.alloc (.cells (zb 64 fun _ => 0) 23)).setRow (W1.heap.size) (zb 64 (fun _ => 0))) ∧ Blk v (w.heap.size) 64 23 (f) ∧ Blk v (w.heap.size + 1) 64 23 (g) ∧ Blk v (w.heap.size + 1 + 1) 64 23 (m) ∧ Blk v (w.heap.size + 1 + 1 + 1) 64 23 (fun _ => 0) ∧ Blk v (W1.heap.size) 64 23 (fun _ => 0) ∧ Below w.heap.size w v := ⟨_, rfl, ((B0.alloc (.cells (zb 64 fun _ => 0) 23)).rowOther (by omega)), ((B1.alloc (.cells (zb 64 fun _ => 0) 23)).rowOther (by omega)), ((B2.alloc (.cells (zb 64 fun _ => 0) 23)).rowOther (by omega)), ((B3.alloc (.cells (zb 64 fun _ => 0) 23)).rowOther (by omega)), ((Blk.new W1 64 23 (fun _ => 0)).row (fun _ => 0)), (zr (hb.alloc (by have := hb.size; simp; omega) (.cells (zb 64 fun _ => 0) 23)) (by omega) _)⟩
 rw [← hwo]
 clear hwo B0 B1 B2 B3 hb
 obtain ⟨B0, B1, B2, B3, B4, hb⟩ := hzQ
 obtain ⟨N1, hNN⟩ : ∃ n : Nat, n = W1.heap.size := ⟨_, rfl⟩
 rw [← hNN] at lt_B0 lt_B1 lt_B2 lt_B3 lhb B4 ⊢
 clear hNN
 have zN1_0 := lt_B0
 have zN1_1 := lt_B1
 have zN1_2 := lt_B2
 have zN1_3 := lt_B3
 have zN1 := lhb
 clear lt_B0 lt_B1 lt_B2 lt_B3 lhb
 try simp only [Act.put, pA, pB, pC]
 go_upto_region 99 with (first | (refine zla (.tmp 6) B1 Try.underlying23 Try.size23 ?_) | (go_at_call 74; refine (l01Deg_any g _).mono ?_; rintro e W3 ⟨rfl, hW3⟩; replace B0 := B0.zw hW3; replace B1 := B1.zw hW3; replace B2 := B2.zw hW3; replace B3 := B3.zw hW3; replace B4 := B4.zw hW3; replace hb := (hb).trans (hW3.mono (hb).size); rw [HD.out]))
 go_loopw [10] (fun i wr => ∃ q j : Nat, Hid (q + j = NN) ∧ i = .int .i64 ((q : Int) - 1) ∧ Below w.heap.size w wr ∧ Blk wr w.heap.size 64 23 f ∧ Blk wr (w.heap.size + 1) 64 23 g ∧ Blk wr (w.heap.size + 1 + 1) 64 23 m ∧ Blk wr (w.heap.size + 1 + 1 + 1) 64 23 (fun _ => 0) ∧ Blk wr (N1) 64 23 (hmR p f g m (NN - 1) j)) (fun i _ => (intOf i + 1).toNat)
 case atStart => exact ⟨NN, 0, Lib.hid (by omega), rfl, hb, B0, B1, B2, B3, by rw [hmR_z]; exact B4⟩
 case round =>
  clear hb B0 B1 B2 B3 B4
  obtain ⟨q, j, hqj, rfl, hb, B0, B1, B2, B3, B4⟩ := hrel
  by_cases hq0 : q = 0
  · subst hq0
    have ej : j = NN := by have := hqj.out; omega
    rw [ej] at B4
    clear hqj ej
    go_upto_region 7 with (fail)
    have lt_B0 := B0.lt
    have lt_B1 := B1.lt
    have lt_B2 := B2.lt
    have lt_B3 := B3.lt
    have lt_B4 := B4.lt
    go_wp2_with (first | rw [← z64] | (refine zla (.tmp 9) B4 Try.underlying23 Try.size23 ?_) | (refine zsr (.tmp 8) (.tmp 33) (hmR p f g m (NN - 1) NN) B3 Try.size23 ?_; try simp only [Act.put]))
    obtain ⟨W4, hwo, hzQ⟩ : ∃ v : World, v = (wr.setRow (w.heap.size + 1 + 1 + 1) (zb 64 (hmR p f g m (NN - 1) NN))) ∧ Blk v (w.heap.size) 64 23 (f) ∧ Blk v (w.heap.size + 1) 64 23 (g) ∧ Blk v (w.heap.size + 1 + 1) 64 23 (m) ∧ Blk v (w.heap.size + 1 + 1 + 1) 64 23 (hmR p f g m (NN - 1) NN) ∧ Blk v (N1) 64 23 (hmR p f g m (NN - 1) NN) ∧ Below w.heap.size w v := ⟨_, rfl, (B0.rowOther (by omega)), (B1.rowOther (by omega)), (B2.rowOther (by omega)), (B3.row (hmR p f g m (NN - 1) NN)), (B4.rowOther (by omega)), (zr hb (by omega) _)⟩
    rw [← hwo]
    clear hwo B0 B1 B2 B3 B4 hb
    obtain ⟨B0, B1, B2, B3, B4, hb⟩ := hzQ
    try simp only [Act.put, pA, pB, pC]
    refine bodyPost_ret (zrb rfl _ _ _ 64 23 5 _ rfl B3 Try.underlying23 Try.size23) rfl ⟨by rw [HV.out], hb⟩
  · obtain ⟨q, rfl⟩ : ∃ t, q = t + 1 := ⟨q - 1, by omega⟩
    rw [show ((q + 1 : Nat) : Int) - 1 = (q : Int) by omega]
    have hq6 : q < 64 := by have := hqj.out; omega
    obtain ⟨s1, s2, _⟩ := HS.out j (by have := hqj.out; omega)
    have HS1 := Lib.hid s1
    have hgq := lg q hq6
    obtain ⟨C, hC⟩ : ∃ C, C = g q := ⟨_, rfl⟩
    rw [← hC] at hgq
    have HC := Lib.hid hC
    clear hC s1 s2
    have HA := Lib.hid (fun W => l01Add_any p (upP p (hmR p f g m (NN - 1) j) m) f (C : Int) W p2 p7 (by omega) (by omega) (fun k _ => upP_lt p0 k) lf)
    have HR := Lib.hid (show resP p (addK p (upP p (hmR p f g m (NN - 1) j) m) f (C : Int)) m = hmR p f g m (NN - 1) (j + 1) by
     rw [hmR_s, HC.out, show NN - 1 - j = q by have := hqj.out; omega])
    have HM2 := Lib.hid (show ∀ W, Calls Try.prog 131 #[.int .i64 (p : Int), .agg (zb 64 (addK p (upP p (hmR p f g m (NN - 1) j) m) f (C : Int))), .agg (zb 64 m)] W fun e w' => e = .returned (.agg (zb 64 (hmR p f g m (NN - 1) (j + 1)))) ∧ Below W.heap.size W w' by
     intro W
     have := HMO.out (addK p (upP p (hmR p f g m (NN - 1) j) m) f (C : Int)) (fun k _ => addK_lt p0 k) W
     rwa [HR.out] at this)
    go_upto_region 5 with (fail)
    have lt_B0 := B0.lt
    have lt_B1 := B1.lt
    have lt_B2 := B2.lt
    have lt_B3 := B3.lt
    have lt_B4 := B4.lt
    go_upto_region 6 with (first | rw [← z64] | (refine zla (.tmp 9) B4 Try.underlying23 Try.size23 ?_) | (refine zla (.tmp 7) B2 Try.underlying23 Try.size23 ?_) | (go_at_call 174; refine (HUP.out _ HS1.out _).mono ?_; rintro e W4 ⟨rfl, hW4⟩; replace B0 := B0.zw hW4; replace B1 := B1.zw hW4; replace B2 := B2.zw hW4; replace B3 := B3.zw hW4; replace B4 := B4.zw hW4; replace hb := (hb).trans (hW4.mono (hb).size)) | (refine zsr (.tmp 9) (.tmp 21) (upP p (hmR p f g m (NN - 1) j) m) B4 Try.size23 ?_; try simp only [Act.put]))
    obtain ⟨W5, hwo, hzQ⟩ : ∃ v : World, v = (W4.setRow (N1) (zb 64 (upP p (hmR p f g m (NN - 1) j) m))) ∧ Blk v (w.heap.size) 64 23 (f) ∧ Blk v (w.heap.size + 1) 64 23 (g) ∧ Blk v (w.heap.size + 1 + 1) 64 23 (m) ∧ Blk v (w.heap.size + 1 + 1 + 1) 64 23 (fun _ => 0) ∧ Blk v (N1) 64 23 (upP p (hmR p f g m (NN - 1) j) m) ∧ Below w.heap.size w v := ⟨_, rfl, (B0.rowOther (by omega)), (B1.rowOther (by omega)), (B2.rowOther (by omega)), (B3.rowOther (by omega)), (B4.row (upP p (hmR p f g m (NN - 1) j) m)), (zr hb (by omega) _)⟩
    rw [← hwo]
    clear hwo B0 B1 B2 B3 B4 hb
    obtain ⟨B0, B1, B2, B3, B4, hb⟩ := hzQ
    try simp only [Act.put, pA, pB, pC]
    have lt_B0 : (w.heap.size) < W5.heap.size := B0.lt
    have lt_B1 : (w.heap.size + 1) < W5.heap.size := B1.lt
    have lt_B2 : (w.heap.size + 1 + 1) < W5.heap.size := B2.lt
    have lt_B3 : (w.heap.size + 1 + 1 + 1) < W5.heap.size := B3.lt
    have lt_B4 : (N1) < W5.heap.size := B4.lt
    have hbase : w.heap.size ≤ W5.heap.size := hb.size
    refine zq Try.mixed (by kernel_rfl) (by kernel_rfl) (fun v => by (simp only [frL, Act.put, pA, pB, pC, Nat.reduceAdd, Nat.zero_add]; exact rfl))
     (fun L v W6 => Below w.heap.size w W6 ∧ W5.heap.size ≤ W6.heap.size ∧ Blk W6 (w.heap.size) 64 23 (f) ∧ Blk W6 (w.heap.size + 1) 64 23 (g) ∧ Blk W6 (w.heap.size + 1 + 1) 64 23 (m) ∧ Blk W6 (w.heap.size + 1 + 1 + 1) 64 23 (fun _ => 0) ∧ (∃ g, Blk W6 (N1) 64 23 (g)) ∧ (L 11 = false → Blk W6 (N1) 64 23 (upP p (hmR p f g m (NN - 1) j) m)) ∧ (L 11 = true → Blk W6 (N1) 64 23 (hmR p f g m (NN - 1) (j + 1))) ∧ (L 0 = true → v 0 = (.int .i64 (p : Int))) ∧ (L 1 = true → v 1 = (.int .i64 (p : Int))) ∧ (L 2 = true → v 2 = (.agg (zb 64 (upP p (hmR p f g m (NN - 1) j) m)))) ∧ (L 3 = true → v 3 = (.agg (zb 64 (f)))) ∧ (L 4 = true → v 4 = (.int .i64 (q : Int))) ∧ (L 5 = true → v 5 = (.pointer (some ⟨w.heap.size + 1, q, none⟩))) ∧ (L 6 = true → v 6 = (.int .u8 (C : Int))) ∧ (L 7 = true → v 7 = (.int .i64 (C : Int))) ∧ (L 8 = true → v 8 = (.agg (zb 64 (addK p (upP p (hmR p f g m (NN - 1) j) m) f (C : Int))))) ∧ (L 9 = true → v 9 = (.agg (zb 64 (m)))) ∧ (L 10 = true → v 10 = (.agg (zb 64 (hmR p f g m (NN - 1) (j + 1)))))) ?_ ?_ ?_
    · intro v hv0
      exact ⟨hb.drew, Nat.le_refl _, B0.drew, B1.drew, B2.drew, B3.drew, ⟨_, B4.drew⟩, (fun _ => B4.drew), (fun h => by cases h), (fun h => by cases h), (fun h => by cases h), (fun h => by cases h), (fun h => by cases h), (fun h => by cases h), (fun h => by cases h), (fun h => by cases h), (fun h => by cases h), (fun h => by cases h), (fun h => by cases h), (fun h => by cases h)⟩
    · refine (.cons rfl ?_ (.cons rfl ?_ (.cons rfl ?_ (.cons rfl ?_ (.cons rfl ?_ (.cons rfl ?_ (.cons rfl ?_ (.cons rfl ?_ (.cons rfl ?_ (.cons rfl ?_ (.cons rfl ?_ (.cons rfl ?_ (.nil _)))))))))))))
      all_goals intro L v W6 hd hn ⟨hB, hz, s0, s1, s2, s3, x4, q4, n4, h0, h1, h2, h3, h4, h5, h6, h7, h8, h9, h10⟩ K hK
      · go_wp2_with fail
        exact hK _ (.int .i64 (p : Int)) _ (by simp only [Act.put, pA, pB, pC ]) ⟨hB, hz, s0, s1, s2, s3, x4, q4, n4, (fun _ => rfl), h1, h2, h3, h4, h5, h6, h7, h8, h9, h10⟩
      · go_wp2_with fail
        exact hK _ (.int .i64 (p : Int)) _ (by simp only [Act.put, pA, pB, pC ]) ⟨hB, hz, s0, s1, s2, s3, x4, q4, n4, h0, (fun _ => rfl), h2, h3, h4, h5, h6, h7, h8, h9, h10⟩
      · have s4 := q4 (by
         cases hL : L 11 with
         | false => rfl
         | true => exact absurd rfl (hn 11 _ rfl hL ⟨2, .phase⟩ (by simp) rfl))
        refine zlc s4 Try.underlying23 Try.size23 ?_
        exact hK _ _ _ rfl ⟨hB, hz, s0, s1, s2, s3, x4, q4, n4, h0, h1, (fun _ => rfl), h3, h4, h5, h6, h7, h8, h9, h10⟩
      · refine zlc s0 Try.underlying23 Try.size23 ?_
        exact hK _ _ _ rfl ⟨hB, hz, s0, s1, s2, s3, x4, q4, n4, h0, h1, h2, (fun _ => rfl), h4, h5, h6, h7, h8, h9, h10⟩
      · go_wp2_with fail
        exact hK _ (.int .i64 (q : Int)) _ (by simp only [Act.put, pA, pB, pC ]) ⟨hB, hz, s0, s1, s2, s3, x4, q4, n4, h0, h1, h2, h3, (fun _ => rfl), h5, h6, h7, h8, h9, h10⟩
      · have e4 := h4 (zdq hd 4 rfl)
        go_wp2_with fail
        exact hK _ (.pointer (some ⟨w.heap.size + 1, q, none⟩)) _ (by simp only [Act.put, pA, pB, pC, e4]) ⟨hB, hz, s0, s1, s2, s3, x4, q4, n4, h0, h1, h2, h3, h4, (fun _ => rfl), h6, h7, h8, h9, h10⟩
      · have e5 := h5 (zdq hd 5 rfl)
        have cc := s1.cell (i := q) hq6
        rw [← HC.out] at cc
        go_wp2_with fail
        exact hK _ (.int .u8 (C : Int)) _ (by simp only [Act.put, pA, pB, pC, e5]) ⟨hB, hz, s0, s1, s2, s3, x4, q4, n4, h0, h1, h2, h3, h4, h5, (fun _ => rfl), h7, h8, h9, h10⟩
      · have e6 := h6 (zdq hd 6 rfl)
        go_wp2_with fail
        exact hK _ (.int .i64 (C : Int)) _ (by simp only [Act.put, pA, pB, pC, e6]) ⟨hB, hz, s0, s1, s2, s3, x4, q4, n4, h0, h1, h2, h3, h4, h5, h6, (fun _ => rfl), h8, h9, h10⟩
      · have e1 := h1 (zdq hd 1 rfl)
        have e2 := h2 (zdq hd 2 rfl)
        have e3 := h3 (zdq hd 3 rfl)
        have e7 := h7 (zdq hd 7 rfl)
        go_wp2_with (go_at_call 79; refine (HA.out _).mono ?_; rintro e wy ⟨rfl, hy⟩)
        exact hK _ (.agg (zb 64 (addK p (upP p (hmR p f g m (NN - 1) j) m) f (C : Int)))) _ (by simp only [Act.put, pA, pB, pC, e1, e2, e3, e7]) ⟨hB.trans (hy.mono hB.size), (Nat.le_trans hz hy.size), s0.zw hy, s1.zw hy, s2.zw hy, s3.zw hy, (let ⟨g, h⟩ := x4; ⟨g, h.zw hy⟩), (fun h => (q4 h).below hy (q4 h).lt), (fun h => (n4 h).below hy (n4 h).lt), h0, h1, h2, h3, h4, h5, h6, h7, (fun _ => rfl), h9, h10⟩
      · refine zlc s2 Try.underlying23 Try.size23 ?_
        exact hK _ _ _ rfl ⟨hB, hz, s0, s1, s2, s3, x4, q4, n4, h0, h1, h2, h3, h4, h5, h6, h7, h8, (fun _ => rfl), h10⟩
      · have e0 := h0 (zdq hd 0 rfl)
        have e8 := h8 (zdq hd 8 rfl)
        have e9 := h9 (zdq hd 9 rfl)
        go_wp2_with (go_at_call 131; refine (HM2.out _).mono ?_; rintro e wy ⟨rfl, hy⟩)
        exact hK _ (.agg (zb 64 (hmR p f g m (NN - 1) (j + 1)))) _ (by simp only [Act.put, pA, pB, pC, e0, e8, e9]) ⟨hB.trans (hy.mono hB.size), (Nat.le_trans hz hy.size), s0.zw hy, s1.zw hy, s2.zw hy, s3.zw hy, (let ⟨g, h⟩ := x4; ⟨g, h.zw hy⟩), (fun h => (q4 h).below hy (q4 h).lt), (fun h => (n4 h).below hy (n4 h).lt), h0, h1, h2, h3, h4, h5, h6, h7, h8, h9, (fun _ => rfl)⟩
      · have e10 := h10 (zdq hd 10 rfl)
        obtain ⟨gz, hk⟩ := x4
        refine zsb 23 _ _ rfl _ 64 (hmR p f g m (NN - 1) (j + 1)) rfl e10 23 gz hk Try.size23 ?_
        exact hK _ undef _ rfl ⟨zr hB (by omega) _, (by simpa [World.setRow] using hz), (s0).rowOther (by omega), (s1).rowOther (by omega), (s2).rowOther (by omega), (s3).rowOther (by omega), ⟨_, hk.row _⟩, (fun h => absurd h (by simp [setL])), (fun _ => hk.row _), h0, h1, h2, h3, h4, h5, h6, h7, h8, h9, h10⟩
    · intro L v W6 hL ⟨hB, hz, s0, s1, s2, s3, x4, q4, n4, h0, h1, h2, h3, h4, h5, h6, h7, h8, h9, h10⟩
      have r4 := n4 (hL 11 (by decide))
      have e0 := h0 (hL 0 (by decide))
      have e1 := h1 (hL 1 (by decide))
      have e2 := h2 (hL 2 (by decide))
      have e3 := h3 (hL 3 (by decide))
      have e4 := h4 (hL 4 (by decide))
      have e5 := h5 (hL 5 (by decide))
      have e6 := h6 (hL 6 (by decide))
      have e7 := h7 (hL 7 (by decide))
      have e8 := h8 (hL 8 (by decide))
      have e9 := h9 (hL 9 (by decide))
      have e10 := h10 (hL 10 (by decide))
      clear hL x4 q4 n4 h0 h1 h2 h3 h4 h5 h6 h7 h8 h9 h10
      simp only [Exit.then, e0, e1, e2, e3, e4, e5, e6, e7, e8, e9, e10]
      clear e0 e1 e2 e3 e4 e5 e6 e7 e8 e9 e10
      replace B0 := s0
      clear s0
      replace B1 := s1
      clear s1
      replace B2 := s2
      clear s2
      replace B3 := s3
      clear s3
      replace B4 := r4
      clear r4
      replace hb := hB
      clear hB
      clear hbase hz lt_B0 lt_B1 lt_B2 lt_B3 lt_B4
      go_wp2_with fail
      go_roundw
      case rel => exact ⟨q, j + 1, Lib.hid (by have := hqj.out; omega), rfl, hb, B0, B1, B2, B3, B4⟩
      case measure => simp [intOf] <;> omega
end Go.Proofs.Ytobcdekochenfaa
end
section
namespace Go.Proofs.Ytobcdekochenfaa
open Go.RowKit
set_option linter.unusedVariables false
set_option linter.unusedSimpArgs false
attribute [local irreducible] deg invN dS qS stp stpr quoP resP oneP upP upF hmR mmP shA addK
/-- squares and products, at most f more rounds -/
def pmR (p : Nat) (m : Nat → Nat) : Nat → Nat → (Nat → Nat) → (Nat → Nat) → (Nat → Nat)
 | 0, _, o, _ => o
 | f + 1, k, o, s => if k = 0 then o else pmR p m f (k / 2) (if k % 2 = 1 then mmP p o s m else o) (mmP p s s m)
theorem pmR_z {p f : Nat} {m o s : Nat → Nat} : pmR p m f 0 o s = o := by cases f <;> simp [pmR]
theorem pmR_odd {p f k : Nat} {m o s : Nat → Nat} (h0 : k ≠ 0) (h : k % 2 = 1) : pmR p m (f + 1) k o s = pmR p m f (k / 2) (mmP p o s m) (mmP p s s m) := by rw [pmR, if_neg h0, if_pos h]
theorem pmR_even {p f k : Nat} {m o s : Nat → Nat} (h0 : k ≠ 0) (h : ¬ k % 2 = 1) : pmR p m (f + 1) k o s = pmR p m f (k / 2) o (mmP p s s m) := by rw [pmR, if_neg h0, if_neg h]
/-- the model's power -/
def pmP (p : Nat) (a : Nat → Nat) (k : Nat) (m : Nat → Nat) : Nat → Nat := pmR p m 64 k (resP p oneP m) (resP p a m)
theorem pmR_spec {p : Nat} {m : Nat → Nat} (hp : p = 2 ∨ p = 3 ∨ p = 5 ∨ p = 7) (hm : ∀ k, k < 64 → m k < p) (h0 : 0 ≤ deg m) : ∀ (f k : Nat) (o s : Nat → Nat), k < 2 ^ f → (∀ i, i < 64 → o i < p) → (∀ i, i < 64 → s i < p) → deg o < deg m →
 (∀ i, i < 64 → pmR p m f k o s i < p) ∧ deg (pmR p m f k o s) < deg m ∧ rm p (lz m) (lz (pmR p m f k o s)) (mz (lz o) (pwz (lz s) k))
 | 0, k, o, s, hk, ho, hs, hd => by
  rw [Nat.pow_zero] at hk
  obtain rfl : k = 0 := by omega
  refine ⟨ho, hd, ?_⟩
  have : mz (lz o) (pwz (lz s) 0) = lz o := by rw [mz_comm]; exact mz_one _
  rw [this]; exact rm_refl _ _ _
 | f + 1, k, o, s, hk, ho, hs, hd => by
  have hp0 : 0 < p := by omega
  by_cases hz : k = 0
  · subst hz
    rw [pmR_z]
    refine ⟨ho, hd, ?_⟩
    have : mz (lz o) (pwz (lz s) 0) = lz o := by rw [mz_comm]; exact mz_one _
    rw [this]; exact rm_refl _ _ _
  · have hk2 : k / 2 < 2 ^ f := by rw [Nat.pow_succ] at hk; omega
    have hss : ∀ i, i < 64 → mmP p s s m i < p := fun i hi => mmP_lt hp0 i (by omega)
    have sq : rm p (lz m) (pwz (lz (mmP p s s m)) (k / 2)) (pwz (lz s) (2 * (k / 2))) := by
     rw [pwz_two]
     exact rm_symm (rm_pwz (fin_mz (fin_lz s) (fin_lz s)) (fin_lz _) (mmP_rm hp hm h0) _)
    by_cases ho2 : k % 2 = 1
    · rw [pmR_odd hz ho2]
      obtain ⟨a1, a2, a3⟩ := pmR_spec hp hm h0 f (k / 2) (mmP p o s m) (mmP p s s m) hk2 (fun i hi => mmP_lt hp0 i (by omega)) hss (mmP_deg hp hm h0)
      refine ⟨a1, a2, rm_trans a3 ?_⟩
      have e : mz (lz o) (pwz (lz s) k) = mz (mz (lz o) (lz s)) (pwz (lz s) (2 * (k / 2))) := by
       have : k = 2 * (k / 2) + 1 := by omega
       conv => lhs; rw [this]
       show mz (lz o) (mz (pwz (lz s) (2 * (k / 2))) (lz s)) = _
       rw [mz_comm (pwz (lz s) (2 * (k / 2))), ← mz_assoc]
      rw [e]
      exact rm_mz2 (fin_pwz (fin_lz _) _) (fin_mz (fin_lz o) (fin_lz s)) (rm_symm (mmP_rm hp hm h0)) sq
    · rw [pmR_even hz ho2]
      obtain ⟨a1, a2, a3⟩ := pmR_spec hp hm h0 f (k / 2) o (mmP p s s m) hk2 ho hss hd
      refine ⟨a1, a2, rm_trans a3 ?_⟩
      have e : k = 2 * (k / 2) := by omega
      conv => rhs; rw [e]
      exact rm_mz2 (fin_pwz (fin_lz _) _) (fin_lz o) (rm_refl _ _ _) sq
/-- the power's residue -/
theorem pmP_spec {p k : Nat} {a m : Nat → Nat} (hp : p = 2 ∨ p = 3 ∨ p = 5 ∨ p = 7) (ha : ∀ i, i < 64 → a i < p) (hm : ∀ k, k < 64 → m k < p) (h0 : 0 ≤ deg m) (hk : k < 2 ^ 64) :
 (∀ i, i < 64 → pmP p a k m i < p) ∧ deg (pmP p a k m) < deg m ∧ rm p (lz m) (lz (pmP p a k m)) (pwz (lz a) k) := by
 have hp0 : 0 < p := by omega
 have h1 : ∀ i, i < 64 → oneP i < p := fun i _ => by unfold oneP; split <;> omega
 obtain ⟨r1, r2, r3⟩ := pmR_spec hp hm h0 64 k (resP p oneP m) (resP p a m) hk (resP_lt hp0 h1) (resP_lt hp0 ha) (resP_deg hp h1 hm h0).1
 refine ⟨r1, r2, rm_trans r3 ?_⟩
 have e1 := res_rm hp h1 hm h0
 rw [one_lz] at e1
 have e2 := rm_pwz (fin_lz a) (fin_lz (resP p a m)) (res_rm hp ha hm h0) k
 have := rm_mz2 (fin_pwz (fin_lz (resP p a m)) k) fin_oneS (rm_symm e1) (rm_symm e2)
 have e3 : mz oneS (pwz (lz a) k) = pwz (lz a) k := mz_one _
 rwa [e3] at this
set_option maxRecDepth 100000 in
set_option maxHeartbeats 1600000 in
theorem l01PowMod_any (p : Nat) (f : Nat → Nat) (k0 : Nat) (m : Nat → Nat) (w : World) (hpr : p = 2 ∨ p = 3 ∨ p = 5 ∨ p = 7) (lf : ∀ k, k < 64 → f k < p) (lm : ∀ k, k < 64 → m k < p) (h0 : 0 ≤ deg m) (hk0 : (k0 : Int) ≤ 1000000000000) :
 Calls Try.prog 145 #[.int .i64 (p : Int), .agg (zb 64 f), .int .i64 (k0 : Int), .agg (zb 64 m)] w fun e w' => e = .returned (.agg (zb 64 (pmP p f k0 m))) ∧ Below w.heap.size w w' := by
 have p0 : 0 < p := by omega
 have l1 : ∀ i, i < 64 → oneP i < p := fun i _ => by unfold oneP; split <;> omega
 have HM1 := Lib.hid (fun W => l01Mod_any p oneP m W hpr l1 lm h0)
 have HM2 := Lib.hid (fun W => l01Mod_any p f m W hpr lf lm h0)
 have HMO := Lib.hid (show ∀ (x : Nat → Nat), (∀ k, k < 64 → x k < p) → ∀ W, Calls Try.prog 131 #[.int .i64 (p : Int), .agg (zb 64 x), .agg (zb 64 m)] W fun e w' => e = .returned (.agg (zb 64 (resP p x m))) ∧ Below W.heap.size W w' from fun x hx W => l01Mod_any p x m W hpr hx lm h0)
 have HL1 := Lib.hid l1; have HLF := Lib.hid lf
 have HMM := Lib.hid (fun (x y : Nat → Nat) (hx : ∀ k, k < 64 → x k < p) (hy : ∀ k, k < 64 → y k < p) W => l01MulMod_any p x y m W hpr hx hy lm h0)
 go_enter Try.func145, Try.ntmps145
 go_upto_region 1 with (fail)
 rw [← z64]
 obtain ⟨W1, hwo⟩ : ∃ v : World, v = (((w.alloc (.cells (zb 64 (f)) 23)).alloc (.cells (zb 64 (m)) 23)).alloc (.cells (zb 64 fun _ => 0) 23)) := ⟨_, rfl⟩
 have B0 : Blk W1 (w.heap.size) 64 23 (f) := by subst hwo; have := (((Blk.new w 64 23 (f)).alloc (.cells (zb 64 (m)) 23)).alloc (.cells (zb 64 fun _ => 0) 23)); simpa using this
 have B1 : Blk W1 (w.heap.size + 1) 64 23 (m) := by subst hwo; have := ((Blk.new (w.alloc (.cells (zb 64 (f)) 23)) 64 23 (m)).alloc (.cells (zb 64 fun _ => 0) 23)); simpa using this
 have B2 : Blk W1 (w.heap.size + 1 + 1) 64 23 (fun _ => 0) := by subst hwo; have := (Blk.new ((w.alloc (.cells (zb 64 (f)) 23)).alloc (.cells (zb 64 (m)) 23)) 64 23 (fun _ => 0)); simpa using this
 have hb : Below w.heap.size w W1 := by subst hwo; exact ((((Below.refl _ _).alloc (Nat.le_refl _) _).alloc (by simp) _).alloc (by simp; omega) _)
 rw [← hwo]
 clear hwo
 have lt_B0 : (w.heap.size) < W1.heap.size := B0.lt
 have lt_B1 : (w.heap.size + 1) < W1.heap.size := B1.lt
 have lt_B2 : (w.heap.size + 1 + 1) < W1.heap.size := B2.lt
 have hbase : w.heap.size ≤ W1.heap.size := hb.size
 refine zq Try.mixed (by kernel_rfl) (by kernel_rfl) (fun v => by (simp only [frL, Act.put, pA, pB, pC, Nat.reduceAdd, Nat.zero_add]; exact rfl))
  (fun L v W2 => Below w.heap.size w W2 ∧ W1.heap.size ≤ W2.heap.size ∧ Blk W2 (w.heap.size) 64 23 (f) ∧ Blk W2 (w.heap.size + 1) 64 23 (m) ∧ Blk W2 (w.heap.size + 1 + 1) 64 23 (fun _ => 0) ∧ (L 0 = true → v 0 = (.int .i64 (p : Int))) ∧ (L 1 = true → v 1 = (.agg (zb 64 (oneP)))) ∧ (L 2 = true → v 2 = (.agg (zb 64 (m)))) ∧ (L 3 = true → v 3 = (.agg (zb 64 (resP p oneP m)))) ∧ (L 4 = true → v 4 = (.int .i64 (p : Int))) ∧ (L 5 = true → v 5 = (.agg (zb 64 (f)))) ∧ (L 6 = true → v 6 = (.agg (zb 64 (m)))) ∧ (L 7 = true → v 7 = (.agg (zb 64 (resP p f m)))) ∧ (L 8 = true → AF (v 8) W2 W1.heap.size 64 23) ∧ (L 9 = true → AF (v 9) W2 W1.heap.size 64 23) ∧ (L 10 = true → PF (v 8) W2 W1.heap.size 64 23 (resP p oneP m)) ∧ (L 11 = true → PF (v 9) W2 W1.heap.size 64 23 (resP p f m)) ∧ (L 8 = true → L 9 = true → v 8 ≠ v 9)) ?_ ?_ ?_
 · intro v hv0
   exact ⟨hb.drew, Nat.le_refl _, B0.drew, B1.drew, B2.drew, (fun h => by cases h), (fun h => by cases h), (fun h => by cases h), (fun h => by cases h), (fun h => by cases h), (fun h => by cases h), (fun h => by cases h), (fun h => by cases h), (fun h => by cases h), (fun h => by cases h), (fun h => by cases h), (fun h => by cases h), (fun h => by cases h)⟩
 · refine (.cons rfl ?_ (.cons rfl ?_ (.cons rfl ?_ (.cons rfl ?_ (.cons rfl ?_ (.cons rfl ?_ (.cons rfl ?_ (.cons rfl ?_ (.cons rfl ?_ (.cons rfl ?_ (.cons rfl ?_ (.cons rfl ?_ (.nil _)))))))))))))
   all_goals intro L v W2 hd hn ⟨hB, hz, s0, s1, s2, h0, h1, h2, h3, h4, h5, h6, h7, h8, h9, h10, h11, d8_9⟩ K hK
   · go_wp2_with fail
     exact hK _ (.int .i64 (p : Int)) _ (by simp only [Act.put, pA, pB, pC ]) ⟨hB, hz, s0, s1, s2, (fun _ => rfl), h1, h2, h3, h4, h5, h6, h7, h8, h9, h10, h11, d8_9⟩
   · go_wp2_with (go_at_call 80; refine (l01One_any _).mono ?_; rintro e wy ⟨rfl, hy⟩)
     exact hK _ (.agg (zb 64 (oneP))) _ (by simp only [Act.put, pA, pB, pC ]) ⟨hB.trans (hy.mono hB.size), (Nat.le_trans hz hy.size), s0.zw hy, s1.zw hy, s2.zw hy, h0, (fun _ => rfl), h2, h3, h4, h5, h6, h7, (fun h => (h8 h).below hy), (fun h => (h9 h).below hy), (fun h => (h10 h).below hy), (fun h => (h11 h).below hy), d8_9⟩
   · refine zlc s1 Try.underlying23 Try.size23 ?_
     exact hK _ _ _ rfl ⟨hB, hz, s0, s1, s2, h0, h1, (fun _ => rfl), h3, h4, h5, h6, h7, h8, h9, h10, h11, d8_9⟩
   · have e0 := h0 (zdq hd 0 rfl)
     have e1 := h1 (zdq hd 1 rfl)
     have e2 := h2 (zdq hd 2 rfl)
     go_wp2_with (go_at_call 131; refine (HMO.out oneP HL1.out _).mono ?_; rintro e wy ⟨rfl, hy⟩)
     exact hK _ (.agg (zb 64 (resP p oneP m))) _ (by simp only [Act.put, pA, pB, pC, e0, e1, e2]) ⟨hB.trans (hy.mono hB.size), (Nat.le_trans hz hy.size), s0.zw hy, s1.zw hy, s2.zw hy, h0, h1, h2, (fun _ => rfl), h4, h5, h6, h7, (fun h => (h8 h).below hy), (fun h => (h9 h).below hy), (fun h => (h10 h).below hy), (fun h => (h11 h).below hy), d8_9⟩
   · go_wp2_with fail
     exact hK _ (.int .i64 (p : Int)) _ (by simp only [Act.put, pA, pB, pC ]) ⟨hB, hz, s0, s1, s2, h0, h1, h2, h3, (fun _ => rfl), h5, h6, h7, h8, h9, h10, h11, d8_9⟩
   · refine zlc s0 Try.underlying23 Try.size23 ?_
     exact hK _ _ _ rfl ⟨hB, hz, s0, s1, s2, h0, h1, h2, h3, h4, (fun _ => rfl), h6, h7, h8, h9, h10, h11, d8_9⟩
   · refine zlc s1 Try.underlying23 Try.size23 ?_
     exact hK _ _ _ rfl ⟨hB, hz, s0, s1, s2, h0, h1, h2, h3, h4, h5, (fun _ => rfl), h7, h8, h9, h10, h11, d8_9⟩
   · have e4 := h4 (zdq hd 4 rfl)
     have e5 := h5 (zdq hd 5 rfl)
     have e6 := h6 (zdq hd 6 rfl)
     go_wp2_with (go_at_call 131; refine (HMO.out f HLF.out _).mono ?_; rintro e wy ⟨rfl, hy⟩)
     exact hK _ (.agg (zb 64 (resP p f m))) _ (by simp only [Act.put, pA, pB, pC, e4, e5, e6]) ⟨hB.trans (hy.mono hB.size), (Nat.le_trans hz hy.size), s0.zw hy, s1.zw hy, s2.zw hy, h0, h1, h2, h3, h4, h5, h6, (fun _ => rfl), (fun h => (h8 h).below hy), (fun h => (h9 h).below hy), (fun h => (h10 h).below hy), (fun h => (h11 h).below hy), d8_9⟩
   · go_wp2_with fail
     rw [← z64]
     exact hK _ (.pointer (some ⟨W2.heap.size, 0, none⟩)) _ (by simp only [Act.put, pA, pB, pC ]) ⟨hB.alloc hB.size _, (by simp; omega), (s0).alloc _, (s1).alloc _, (s2).alloc _, h0, h1, h2, h3, h4, h5, h6, h7, (fun _ => (PF.new W2 64 23 _ hz).af), (fun h => (h9 h).below (zal _ _)), (fun h => absurd rfl (hn 10 _ rfl h ⟨8, .data⟩ (by simp) rfl)), (fun h => (h11 h).below (zal _ _)), (fun h g1 => Ne.symm ((h9 g1).ne_new))⟩
   · go_wp2_with fail
     rw [← z64]
     exact hK _ (.pointer (some ⟨W2.heap.size, 0, none⟩)) _ (by simp only [Act.put, pA, pB, pC ]) ⟨hB.alloc hB.size _, (by simp; omega), (s0).alloc _, (s1).alloc _, (s2).alloc _, h0, h1, h2, h3, h4, h5, h6, h7, (fun h => (h8 h).below (zal _ _)), (fun _ => (PF.new W2 64 23 _ hz).af), (fun h => (h10 h).below (zal _ _)), (fun h => absurd rfl (hn 11 _ rfl h ⟨9, .data⟩ (by simp) rfl)), (fun h g1 => (h8 h).ne_new)⟩
   · have e3 := h3 (zdq hd 3 rfl)
     obtain ⟨gz, b, ea, hN, hk⟩ := (h8 (zdq hd 8 rfl)).out
     refine zsb 23 _ _ rfl b 64 (resP p oneP m) ea e3 23 gz hk Try.size23 ?_
     exact hK _ undef _ rfl ⟨zr hB (Nat.le_trans hbase hN) _, (by simpa [World.setRow] using hz), (s0).rowOther (by omega), (s1).rowOther (by omega), (s2).rowOther (by omega), h0, h1, h2, h3, h4, h5, h6, h7, (fun h => (h8 h).row hk), (fun h => (h9 h).row hk), (fun _ => by rw [show updV v 10 undef 8 = v 8 from rfl, ea]; exact PF.row hk hN _), (fun h => (h11 h).rowOther (by rw [← ea]; exact (Ne.symm (d8_9 (zdq hd 8 rfl) (zdq hd 9 rfl))))), d8_9⟩
   · have e7 := h7 (zdq hd 7 rfl)
     obtain ⟨gz, b, ea, hN, hk⟩ := (h9 (zdq hd 9 rfl)).out
     refine zsb 23 _ _ rfl b 64 (resP p f m) ea e7 23 gz hk Try.size23 ?_
     exact hK _ undef _ rfl ⟨zr hB (Nat.le_trans hbase hN) _, (by simpa [World.setRow] using hz), (s0).rowOther (by omega), (s1).rowOther (by omega), (s2).rowOther (by omega), h0, h1, h2, h3, h4, h5, h6, h7, (fun h => (h8 h).row hk), (fun h => (h9 h).row hk), (fun h => (h10 h).rowOther (by rw [← ea]; exact (d8_9 (zdq hd 8 rfl) (zdq hd 9 rfl)))), (fun _ => by rw [show updV v 11 undef 9 = v 9 from rfl, ea]; exact PF.row hk hN _), d8_9⟩
 · intro L v W2 hL ⟨hB, hz, s0, s1, s2, h0, h1, h2, h3, h4, h5, h6, h7, h8, h9, h10, h11, d8_9⟩
   have e0 := h0 (hL 0 (by decide))
   have e1 := h1 (hL 1 (by decide))
   have e2 := h2 (hL 2 (by decide))
   have e3 := h3 (hL 3 (by decide))
   have e4 := h4 (hL 4 (by decide))
   have e5 := h5 (hL 5 (by decide))
   have e6 := h6 (hL 6 (by decide))
   have e7 := h7 (hL 7 (by decide))
   obtain ⟨k1_8, e8, hNk1_8, hk1_8⟩ := (h10 (hL 10 (by decide))).out
   obtain ⟨k1_9, e9, hNk1_9, hk1_9⟩ := (h11 (hL 11 (by decide))).out
   have n8_9 := d8_9 (hL 8 (by decide)) (hL 9 (by decide))
   clear hL h0 h1 h2 h3 h4 h5 h6 h7 h8 h9 h10 h11 d8_9
   rw [e8, e9] at n8_9
   have mk1_8_9 : k1_8 ≠ k1_9 := fun h => n8_9 (by rw [h])
   clear n8_9
   simp only [Exit.then, e0, e1, e2, e3, e4, e5, e6, e7, e8, e9]
   clear e0 e1 e2 e3 e4 e5 e6 e7 e8 e9
   replace B0 := s0
   clear s0
   replace B1 := s1
   clear s1
   replace B2 := s2
   clear s2
   replace hb := hB
   clear hB
   have B3 := hk1_8
   clear hk1_8
   have zk1_8_0 : w.heap.size < k1_8 := by omega
   have zk1_8_1 : w.heap.size + 1 < k1_8 := by omega
   have zk1_8_2 : w.heap.size + 1 + 1 < k1_8 := by omega
   have B4 := hk1_9
   clear hk1_9
   have zk1_9_0 : w.heap.size < k1_9 := by omega
   have zk1_9_1 : w.heap.size + 1 < k1_9 := by omega
   have zk1_9_2 : w.heap.size + 1 + 1 < k1_9 := by omega
   clear hbase hz lt_B0 lt_B1 lt_B2
   go_wp2_with fail
   go_loopw [2] (fun i wr => ∃ (q k : Nat) (po ps : Nat → Nat), Hid (pmP p f k0 m = pmR p m q k po ps) ∧ k < 2 ^ q ∧ (k : Int) ≤ 1000000000000 ∧ Hid (∀ i, i < 64 → po i < p) ∧ Hid (∀ i, i < 64 → ps i < p) ∧ i = .int .i64 (k : Int) ∧ Below w.heap.size w wr ∧ Blk wr (w.heap.size + 1) 64 23 m ∧ Blk wr (w.heap.size + 1 + 1) 64 23 (fun _ => 0) ∧ Blk wr k1_8 64 23 po ∧ Blk wr k1_9 64 23 ps) (fun i _ => (intOf i).toNat)
   case atStart => exact ⟨64, k0, _, _, Lib.hid rfl, (by have h6 : (1000000000000 : Nat) < 2 ^ 64 := (by decide); omega), hk0, Lib.hid (resP_lt p0 l1), Lib.hid (resP_lt p0 lf), rfl, hb, B1, B2, B3, B4⟩
   case round =>
    clear hb B0 B1 B2 B3 B4
    obtain ⟨q, k, po, ps, hP, hkq, hk, ho, hs, rfl, hb, B1, B2, B3, B4⟩ := hrel
    have HKQ := Lib.hid hkq
    clear hkq hk0
    by_cases hz : k = 0
    · subst hz
      have HV := Lib.hid (hP.out.trans pmR_z)
      go_upto_region 7 with (fail)
      have lt_B1 := B1.lt
      have lt_B2 := B2.lt
      have lt_B3 := B3.lt
      have lt_B4 := B4.lt
      go_wp2_with (first | rw [← z64] | (refine zla (.tmp 9) B3 Try.underlying23 Try.size23 ?_) | (refine zsr (.tmp 8) (.tmp 36) (po) B2 Try.size23 ?_; try simp only [Act.put]))
      obtain ⟨W3, hwo, hzQ⟩ : ∃ v : World, v = (wr.setRow (w.heap.size + 1 + 1) (zb 64 (po))) ∧ Blk v (w.heap.size + 1) 64 23 (m) ∧ Blk v (w.heap.size + 1 + 1) 64 23 (po) ∧ Blk v (k1_8) 64 23 (po) ∧ Blk v (k1_9) 64 23 (ps) ∧ Below w.heap.size w v := ⟨_, rfl, (B1.rowOther (by omega)), (B2.row (po)), (B3.rowOther (by omega)), (B4.rowOther (by omega)), (zr hb (by omega) _)⟩
      rw [← hwo]
      clear hwo B1 B2 B3 B4 hb
      obtain ⟨B1, B2, B3, B4, hb⟩ := hzQ
      try simp only [Act.put, pA, pB, pC]
      refine bodyPost_ret (zrb rfl _ _ _ 64 23 5 _ rfl B2 Try.underlying23 Try.size23) rfl ⟨by rw [HV.out], hb⟩
    · obtain ⟨q, rfl⟩ : ∃ t, q = t + 1 := ⟨q - 1, by have h1 := HKQ.out; have h2 : q ≠ 0 := (by intro h; rw [h, Nat.pow_zero] at h1; omega); omega⟩
      have hpos : (0 : Int) < (k : Int) := by omega
      by_cases hodd : k % 2 = 1
      · have hb1 : (((k : Int) % 2) == 1) = true := beq_iff_eq.2 (by omega)
        have hb2 : (((k : Int).tmod 2) == 1) = true := by rw [Int.tmod_eq_emod_of_nonneg (by omega)]; exact hb1
        have HV := Lib.hid (hP.out.trans (pmR_odd hz hodd))
        have HD := Lib.hid (show k / 2 < 2 ^ q by have := HKQ.out; rw [Nat.pow_succ] at this; omega)
        clear hodd hz hP
        go_upto_region 5 with (fail)
        clear hb1 hb2
        have lt_B1 := B1.lt
        have lt_B2 := B2.lt
        have lt_B3 := B3.lt
        have lt_B4 := B4.lt
        go_upto_region 6 with (first | rw [← z64] | (refine zla (.tmp 9) B3 Try.underlying23 Try.size23 ?_) | (refine zla (.tmp 10) B4 Try.underlying23 Try.size23 ?_) | (refine zla (.tmp 7) B1 Try.underlying23 Try.size23 ?_) | (go_at_call 132; refine (HMM.out po ps ho.out hs.out _).mono ?_; rintro e W3 ⟨rfl, hW3⟩; replace B1 := B1.zw hW3; replace B2 := B2.zw hW3; replace B3 := B3.zw hW3; replace B4 := B4.zw hW3; replace hb := (hb).trans (hW3.mono (hb).size)) | (refine zsr (.tmp 9) (.tmp 30) (mmP p po ps m) B3 Try.size23 ?_; try simp only [Act.put]))
        obtain ⟨W4, hwo, hzQ⟩ : ∃ v : World, v = (W3.setRow (k1_8) (zb 64 (mmP p po ps m))) ∧ Blk v (w.heap.size + 1) 64 23 (m) ∧ Blk v (w.heap.size + 1 + 1) 64 23 (fun _ => 0) ∧ Blk v (k1_8) 64 23 (mmP p po ps m) ∧ Blk v (k1_9) 64 23 (ps) ∧ Below w.heap.size w v := ⟨_, rfl, (B1.rowOther (by omega)), (B2.rowOther (by omega)), (B3.row (mmP p po ps m)), (B4.rowOther (by omega)), (zr hb (by omega) _)⟩
        rw [← hwo]
        clear hwo B1 B2 B3 B4 hb
        obtain ⟨B1, B2, B3, B4, hb⟩ := hzQ
        try simp only [Act.put, pA, pB, pC]
        have lt_B1 := B1.lt
        have lt_B2 := B2.lt
        have lt_B3 := B3.lt
        have lt_B4 := B4.lt
        go_wp2_with (first | rw [← z64] | (refine zla (.tmp 10) B4 Try.underlying23 Try.size23 ?_) | (refine zla (.tmp 10) B4 Try.underlying23 Try.size23 ?_) | (refine zla (.tmp 7) B1 Try.underlying23 Try.size23 ?_) | (go_at_call 132; refine (HMM.out ps ps hs.out hs.out _).mono ?_; rintro e W5 ⟨rfl, hW5⟩; replace B1 := B1.zw hW5; replace B2 := B2.zw hW5; replace B3 := B3.zw hW5; replace B4 := B4.zw hW5; replace hb := (hb).trans (hW5.mono (hb).size)) | (refine zsr (.tmp 10) (.tmp 35) (mmP p ps ps m) B4 Try.size23 ?_; try simp only [Act.put]))
        obtain ⟨W6, hwo, hzQ⟩ : ∃ v : World, v = (W5.setRow (k1_9) (zb 64 (mmP p ps ps m))) ∧ Blk v (w.heap.size + 1) 64 23 (m) ∧ Blk v (w.heap.size + 1 + 1) 64 23 (fun _ => 0) ∧ Blk v (k1_8) 64 23 (mmP p po ps m) ∧ Blk v (k1_9) 64 23 (mmP p ps ps m) ∧ Below w.heap.size w v := ⟨_, rfl, (B1.rowOther (by omega)), (B2.rowOther (by omega)), (B3.rowOther (by omega)), (B4.row (mmP p ps ps m)), (zr hb (by omega) _)⟩
        rw [← hwo]
        clear hwo B1 B2 B3 B4 hb
        obtain ⟨B1, B2, B3, B4, hb⟩ := hzQ
        try simp only [Act.put, pA, pB, pC]
        go_roundw
        case rel => exact ⟨q, k / 2, mmP p po ps m, mmP p ps ps m, HV, HD.out, by omega, Lib.hid (fun i hi => mmP_lt p0 i (by omega)), Lib.hid (fun i hi => mmP_lt p0 i (by omega)), by rw [show ((k / 2 : Nat) : Int) = (k : Int) / 2 by push_cast; rfl], hb, B1, B2, B3, B4⟩
        case measure => simp [intOf] <;> omega
      · have hb1 : (((k : Int) % 2) == 1) = false := beq_eq_false_iff_ne.2 (by omega)
        have hb2 : (((k : Int).tmod 2) == 1) = false := by rw [Int.tmod_eq_emod_of_nonneg (by omega)]; exact hb1
        have HV := Lib.hid (hP.out.trans (pmR_even hz hodd))
        have HD := Lib.hid (show k / 2 < 2 ^ q by have := HKQ.out; rw [Nat.pow_succ] at this; omega)
        clear hodd hz hP
        go_upto_region 6 with (fail)
        clear hb1 hb2
        have lt_B1 := B1.lt
        have lt_B2 := B2.lt
        have lt_B3 := B3.lt
        have lt_B4 := B4.lt
        go_wp2_with (first | rw [← z64] | (refine zla (.tmp 10) B4 Try.underlying23 Try.size23 ?_) | (refine zla (.tmp 10) B4 Try.underlying23 Try.size23 ?_) | (refine zla (.tmp 7) B1 Try.underlying23 Try.size23 ?_) | (go_at_call 132; refine (HMM.out ps ps hs.out hs.out _).mono ?_; rintro e W3 ⟨rfl, hW3⟩; replace B1 := B1.zw hW3; replace B2 := B2.zw hW3; replace B3 := B3.zw hW3; replace B4 := B4.zw hW3; replace hb := (hb).trans (hW3.mono (hb).size)) | (refine zsr (.tmp 10) (.tmp 35) (mmP p ps ps m) B4 Try.size23 ?_; try simp only [Act.put]))
        obtain ⟨W4, hwo, hzQ⟩ : ∃ v : World, v = (W3.setRow (k1_9) (zb 64 (mmP p ps ps m))) ∧ Blk v (w.heap.size + 1) 64 23 (m) ∧ Blk v (w.heap.size + 1 + 1) 64 23 (fun _ => 0) ∧ Blk v (k1_8) 64 23 (po) ∧ Blk v (k1_9) 64 23 (mmP p ps ps m) ∧ Below w.heap.size w v := ⟨_, rfl, (B1.rowOther (by omega)), (B2.rowOther (by omega)), (B3.rowOther (by omega)), (B4.row (mmP p ps ps m)), (zr hb (by omega) _)⟩
        rw [← hwo]
        clear hwo B1 B2 B3 B4 hb
        obtain ⟨B1, B2, B3, B4, hb⟩ := hzQ
        try simp only [Act.put, pA, pB, pC]
        go_roundw
        case rel => exact ⟨q, k / 2, po, mmP p ps ps m, HV, HD.out, by omega, ho, Lib.hid (fun i hi => mmP_lt p0 i (by omega)), by rw [show ((k / 2 : Nat) : Int) = (k : Int) / 2 by push_cast; rfl], hb, B1, B2, B3, B4⟩
        case measure => simp [intOf] <;> omega
end Go.Proofs.Ytobcdekochenfaa
end
section
namespace Go.Proofs.Ytobcdekochenfaa
set_option linter.unusedVariables false
set_option linter.unusedSimpArgs false
open Classical in
/-- the symbol -/
noncomputable def sy (p d : Nat) (m a : Nat → Int) : Nat := if cpr p a m then (gs p d m a % (p : Int)).toNat else 0
theorem sy_lt {p d : Nat} {m a : Nat → Int} (hp : 0 < p) : sy p d m a < p := by
 unfold sy
 split
 · have h1 := Int.emod_lt_of_pos (gs p d m a) (show (0 : Int) < p by omega)
   have h2 := Int.emod_nonneg (gs p d m a) (show (p : Int) ≠ 0 by omega)
   omega
 · exact hp
theorem sy_em {p d : Nat} {m a : Nat → Int} (hp : 0 < p) (h : cpr p a m) : em p (sy p d m a) (gs p d m a) := by
 unfold sy
 rw [if_pos h, Int.toNat_of_nonneg (Int.emod_nonneg _ (by omega))]
 have := Int.dvd_self_sub_emod (x := gs p d m a) (m := (p : Int))
 exact em_symm this
theorem sy_no {p d : Nat} {m a : Nat → Int} (h : ¬ cpr p a m) : sy p d m a = 0 := by unfold sy; rw [if_neg h]
theorem nat_em {p a b : Nat} (ha : a < p) (hb : b < p) (h : em p (a : Int) (b : Int)) : a = b := by
 have := dvd_small h (by omega) (by omega)
 omega
theorem sy_two {p d e : Nat} {m n a : Nat → Int} (hp : p = 2 ∨ p = 3 ∨ p = 5 ∨ p = 7) (hn : monS d n) (hm : monS e m) (fn : fin n) (fm : fin m) (ha : fin a) :
 em p (sy p (d + e) (mz n m) a) ((sy p d n a : Int) * (sy p e m a : Int)) := by
 by_cases hc : cpr p a (mz n m)
 · have c1 : cpr p a n := cpr_left fm hc
   have c2 : cpr p a m := cpr_left fn (by rw [mz_comm]; exact hc)
   exact em_trans (sy_em (by omega) hc) (em_trans (gs_two hp hn hm fn fm ha hc) (em_mul (em_symm (sy_em (by omega) c1)) (em_symm (sy_em (by omega) c2))))
 · rw [sy_no hc]
   by_cases c1 : cpr p a n
   · have c2 : ¬ cpr p a m := fun c2 => hc (cpr_mul fm fn c1 c2)
     rw [sy_no c2, Int.natCast_zero, Int.mul_zero]; exact em_refl _ _
   · rw [sy_no c1, Int.natCast_zero, Int.zero_mul]; exact em_refl _ _
theorem cpr_one (p : Int) (a : Nat → Int) : cpr p a oneS := ⟨zS, oneS, fin_zS, fin_oneS, by rw [zS_mz, zS_az, one_mz]; exact cg_refl _ _⟩
theorem sy_one {p : Nat} {a : Nat → Int} (hp : 2 ≤ p) : sy p 0 oneS a = 1 := by
 unfold sy
 rw [if_pos (cpr_one p a), gs_zero, Int.emod_eq_of_lt (by omega) (by omega)]; rfl
theorem sy_null {p d : Nat} {m a : Nat → Int} (hp : p = 2 ∨ p = 3 ∨ p = 5 ∨ p = 7) (hm : monS d m) (hd : 1 ≤ d) (ha : fin a) (h : rm p m a zS) : sy p d m a = 0 := by
 refine sy_no fun hc => ?_
 have h1 := cpr_can hc ha fin_oneS (by rw [mz_comm, one_mz]; exact h)
 have h2 := rm_low (d := d) hm (fun k hk => by unfold oneS; rw [if_neg (by omega)]; exact ⟨0, by omega⟩) (fun k _ => ⟨0, by unfold zS; omega⟩) h1
 have h3 := h2 0
 unfold oneS zS at h3
 rw [if_pos rfl, Int.sub_zero] at h3
 exact ndvd_one hp h3
theorem cpr_up {p : Nat} {m a : Nat → Int} {c : Int} (hp : p = 2 ∨ p = 3 ∨ p = 5 ∨ p = 7) (h0 : ¬ (p : Int) ∣ c) (hc : cpr p a m) : cpr p (cz c a) m := by
 obtain ⟨v, hv⟩ := inv4 hp h0
 obtain ⟨u, w, hu, hw, e⟩ := hc
 refine ⟨cz v u, w, fin_cz _ hu, hw, cg_trans (cg_az ?_ (cg_refl _ _)) e⟩
 rw [mz_cz, cz_mz, cz_cz]
 intro k
 unfold cz
 have h1 := em_mul hv (em_refl p (mz u a k))
 rw [Int.one_mul] at h1
 exact h1
/-- the way down -/
theorem sy_down {p d e : Nat} {m a R : Nat → Int} {l : Int} (hp : p = 2 ∨ p = 3 ∨ p = 5 ∨ p = 7) (hm : monS d m) (hR : monS e R) (fm : fin m) (fR : fin R) (ha : fin a) (hl : ¬ (p : Int) ∣ l) (h : rm p m a (cz l R)) :
 em p (sy p d m a) (l ^ d * (-1) ^ (d * e) * (sy p e R m : Int)) := by
 have p2 : 2 ≤ p := by omega
 by_cases hc : cpr p a m
 · have cR : cpr p R m := cpr_scl (cpr_rm ha h hc)
   have cm := cpr_sym cR
   have h1 := em_trans (sy_em (d := d) (by omega) hc) (em_trans (gs_rm p2 hm ha (fin_cz l fR) h) (gs_scl hp hm fR cR hl))
   have h2 := recip hp hR hm fR fm cm
   refine em_trans h1 (em_trans (em_mul (pow_sn hp l d) h2) ?_)
   rw [Nat.mul_comm e d, ← Int.mul_assoc]
   exact em_mul (em_refl _ _) (em_symm (sy_em (by omega) cm))
 · have cm : ¬ cpr p m R := fun c => hc (cpr_rm (fin_cz l fR) (rm_symm h) (cpr_up hp hl (cpr_sym c)))
   rw [sy_no hc, sy_no cm, Int.natCast_zero, Int.mul_zero]; exact em_refl _ _
-- the modulus up to multiples of p
theorem rm_cgm {p : Int} {m n f g : Nat → Int} (h : cg p m n) (hr : rm p m f g) : rm p n f g := by
 obtain ⟨q, hq, e⟩ := hr
 refine ⟨q, hq, cg_trans e ?_⟩
 rw [mz_comm, mz_comm q n]
 exact cg_mz h
theorem cpr_cgm {p : Int} {m n a : Nat → Int} (h : cg p m n) (hc : cpr p a m) : cpr p a n := by
 obtain ⟨u, v, hu, hv, e⟩ := hc
 refine ⟨u, v, hu, hv, cg_trans (cg_az (cg_refl _ _) ?_) e⟩
 rw [mz_comm, mz_comm v m]
 exact cg_mz (cg_symm h)
theorem sy_cgm {p d : Nat} {m n a : Nat → Int} (hp : 2 ≤ p) (hm : monS d m) (hn : monS d n) (ha : fin a) (h : cg p m n) : sy p d m a = sy p d n a := by
 by_cases hc : cpr p a m
 · have hc2 := cpr_cgm h hc
   refine nat_em (sy_lt (by omega)) (sy_lt (by omega)) (em_trans (sy_em (by omega) hc) (em_trans ?_ (em_symm (sy_em (by omega) hc2))))
   refine pl_em _ fun N _ => lc_cg ?_
   have hf := fin_mz ha (fin_dg (p := p) N hp)
   obtain ⟨_, r2, r3⟩ := rst_ok (p := p) (by omega) hn hf
   exact rst_un (by omega) hm hf (fun k hk => by rw [r2 k hk]; exact ⟨0, by omega⟩) (rm_cgm (cg_symm h) r3)
 · have hc2 : ¬ cpr p a n := fun c => hc (cpr_cgm (cg_symm h) c)
   rw [sy_no hc, sy_no hc2]
-- irreducible ones
theorem sn_pos {p d : Nat} (hp : 0 < p) (h : 1 ≤ d) : 1 ≤ sn p d := by
 obtain ⟨e, rfl⟩ : ∃ e, d = e + 1 := ⟨d - 1, by omega⟩
 rw [sn]
 have : 0 < p ^ e := Nat.pow_pos hp
 omega
theorem sn_lt {p d : Nat} (hp : 2 ≤ p) : sn p d < p ^ d := by
 induction d with
 | zero => simp [sn]
 | succ d ih =>
  rw [sn, Nat.pow_succ]
  have : 2 * p ^ d ≤ p ^ d * p := by rw [Nat.mul_comm]; exact Nat.mul_le_mul_left _ hp
  omega
theorem sn_mul (p d : Nat) (hp : 1 ≤ p) : sn p d * (p - 1) = p ^ d - 1 := by
 induction d with
 | zero => simp [sn]
 | succ d ih =>
  rw [sn, Nat.add_mul, ih, Nat.pow_succ, Nat.mul_sub, Nat.mul_one]
  have h1 : 0 < p ^ d := Nat.pow_pos hp
  have h2 : p ^ d ≤ p ^ d * p := Nat.le_mul_of_pos_right _ hp
  omega
theorem irr_cpr {p d : Nat} {m a : Nat → Nat} (hp : p = 2 ∨ p = 3 ∨ p = 5 ∨ p = 7) (hi : irr p m d) (ha : ∀ k, k < 64 → a k < p) (hn : ¬ dv p (lz m) (lz a)) : cpr p (lz a) (lz m) := by
 have hmp : ∀ k, k < 64 → m k < p := fun k _ => hi.2.2.1 k
 obtain ⟨b1, ⟨j, b2⟩, b3, b4⟩ := bz_all hp ha hmp (.inr (by rw [hi.2.1.1]; omega))
 obtain ⟨da, dm⟩ := (b4 _).1 (dv_self _)
 rcases hi.2.2.2 _ j b1 b2 dm with h0 | h0
 · subst h0
   rw [one_of_mon0 b2] at b3
   exact ⟨lz (bzU p a m), lz (bzW p a m), fin_lz _, fin_lz _, cg_symm b3⟩
 · exfalso
   have h1 := dv_deg hmp b2 dm (by rw [hi.2.1.1]; omega)
   rw [hi.2.1.1] at h1
   obtain rfl : j = d := by omega
   have h2 := mon_same (fun k _ => b1 k) hmp b2 hi.2.1 dm
   rw [lz_congr h2] at da
   exact hn da
/-- the model's power, its first coefficient -/
def ow (p : Nat) (x : Nat → Nat) (N : Nat) : Nat := pmP p x (sn p (deg (ofN p N)).toNat) (ofN p N) 0
theorem pow_12 {p d : Nat} (h : p ≤ 7) (h2 : d ≤ 12) : p ^ d ≤ 13841287201 := by
 have h1 : p ^ d ≤ 7 ^ d := Nat.pow_le_pow_left h d
 have h3 : (7 : Nat) ^ d ≤ 7 ^ 12 := Nat.pow_le_pow_right (by decide) h2
 have h4 : (7 : Nat) ^ 12 = 13841287201 := by decide
 omega
theorem ow_sy {p d N : Nat} {x : Nat → Nat} (hp : p = 2 ∨ p = 3 ∨ p = 5 ∨ p = 7) (hi : irr p (ofN p N) d) (h12 : d ≤ 12) (hx : ∀ k, k < 64 → x k < p) : ow p x N = sy p d (lz (ofN p N)) (lz x) := by
 obtain ⟨m, hm⟩ : ∃ m, m = ofN p N := ⟨_, rfl⟩
 unfold ow
 rw [← hm] at hi ⊢
 have hmp : ∀ k, k < 64 → m k < p := fun k _ => hi.2.2.1 k
 have hd := hi.2.1.1
 have h1 := hi.1
 rw [hd, Int.toNat_natCast]
 have hk : sn p d < 2 ^ 64 := by
  have a1 := sn_lt (d := d) (show 2 ≤ p by omega)
  have a2 := pow_12 (show p ≤ 7 by omega) h12
  have a3 : (13841287201 : Nat) < 2 ^ 64 := by decide
  omega
 obtain ⟨q1, q2, q3⟩ := pmP_spec (k := sn p d) hp hx hmp (by rw [hd]; omega) hk
 have hmS := mon_S hi.2.1
 rw [hd] at q2
 have low : ∀ k, d ≤ k → (p : Int) ∣ lz (pmP p x (sn p d) m) k := fun k hk => by
  unfold lz
  by_cases h : k < 64
  · rw [cut_in _ h, zero_above (f := pmP p x (sn p d) m) (k := k) (by omega) h]; exact ⟨0, by omega⟩
  · rw [zcz _ (by omega)]; exact ⟨0, by omega⟩
 have first : lz (pmP p x (sn p d) m) 0 = (pmP p x (sn p d) m 0 : Nat) := by unfold lz; rw [cut_in _ (by omega)]
 by_cases hdv : dv p (lz m) (lz x)
 · rw [sy_null hp hmS h1 (fin_lz _) hdv]
   have h2 : rm p (lz m) (pwz (lz x) (sn p d)) zS := by
    obtain ⟨k, hk⟩ : ∃ k, sn p d = k + 1 := ⟨sn p d - 1, by have := sn_pos (show 0 < p by omega) h1; omega⟩
    rw [hk]
    show rm p (lz m) (mz (pwz (lz x) k) (lz x)) zS
    have := rm_mz (g := pwz (lz x) k) (fin_pwz (fin_lz x) k) hdv
    rw [zS_mz] at this
    rwa [mz_comm]
   have h3 := rm_low hmS low (fun k _ => ⟨0, by unfold zS; omega⟩) (rm_trans q3 h2) 0
   rw [first] at h3
   unfold zS at h3
   have h4 := dvd_small h3 (by omega) (by have := q1 0 (by omega); omega)
   omega
 · have hc := irr_cpr hp hi hx hdv
   have h2 := gauss hp hmS h1 (irr_euc hp hi) (fin_lz x) hc
   have h3 := rm_low hmS low (fun k hk => by unfold cz oneS; rw [if_neg (by omega), Int.mul_zero]; exact ⟨0, by omega⟩) (rm_trans q3 h2) 0
   rw [first] at h3
   unfold cz oneS at h3
   rw [if_pos rfl, Int.mul_one] at h3
   exact nat_em (q1 0 (by omega)) (sy_lt (by omega)) (em_trans h3 (em_symm (sy_em (by omega) hc)))
-- the factors
theorem quo_mon {p d e : Nat} {a m : Nat → Nat} (hp : p = 2 ∨ p = 3 ∨ p = 5 ∨ p = 7) (ha : ∀ k, k < 64 → a k < p) (hmp : ∀ k, k < 64 → m k < p) (hm : mon m d) (he : mon a e) (h : dv p (lz m) (lz a)) :
 ∃ j, j + d = e ∧ mon (quoP p a m) j ∧ cg p (lz a) (mz (lz (quoP p a m)) (lz m)) := by
 obtain ⟨h1, h2⟩ := quo_exact hp ha hmp hm (by rw [he.1]; omega) h
 rw [he.1] at h2
 have h3 := dv_deg ha hm h (by rw [he.1]; omega)
 rw [he.1] at h3
 obtain ⟨j, hj⟩ : ∃ j : Nat, deg (quoP p a m) = (j : Int) := ⟨(deg (quoP p a m)).toNat, by omega⟩
 obtain ⟨j6, j0, jz⟩ := deg_top hj
 have hq : ∀ k, quoP p a m k < p := fun k => quoP_lt (by omega) k
 refine ⟨j, by omega, ⟨hj, ?_⟩, h1⟩
 have l1 : ldc p (lz (quoP p a m)) j (quoP p a m j : Nat) := by
  refine ⟨fun k hk => by rw [lz_above hj hk]; exact ⟨0, by omega⟩, fun hdv => ?_, ?_⟩
  · have h4 := dvd_small hdv (by omega) (by have := hq j; omega)
    omega
  · unfold lz; rw [cut_in _ j6]; exact em_refl _ _
 have l2 := ldc_cg (cg_symm h1) (ldc_mz hp l1 (ldc_mon hp (mon_S hm)))
 have l3 := (ldc_un l2 (ldc_mon hp (mon_S he))).2
 rw [Int.mul_one] at l3
 exact nat_em (hq j) (by omega) l3
theorem dvo_sy {p d : Nat} {m : Nat → Nat} {X : Nat → Int} (hp : p = 2 ∨ p = 3 ∨ p = 5 ∨ p = 7) (hi : irr p m d) (fX : fin X) : ∀ (f : Nat) (a : Nat → Nat) (e : Nat), (∀ k, k < 64 → a k < p) → mon a e → e < f →
 ∃ j, mon (dvo p m f a).2 j ∧ em p (sy p e (lz a) X) ((sy p d (lz m) X : Int) ^ (dvo p m f a).1 * (sy p j (lz (dvo p m f a).2) X : Int))
 | 0, a, e, _, _, h => by omega
 | f + 1, a, e, ha, he, hef => by
  have hmp : ∀ k, k < 64 → m k < p := fun k _ => hi.2.2.1 k
  have hd0 : 0 ≤ deg m := by rw [hi.2.1.1]; omega
  by_cases hz : deg (resP p a m) < 0
  · rw [dvo, if_pos hz]
    have hdv := (res_zero_iff hp ha hmp hd0).1 hz
    obtain ⟨j, hj, q1, q2⟩ := quo_mon hp ha hmp hi.2.1 he hdv
    have := hi.1
    obtain ⟨t, t1, t2⟩ := dvo_sy hp hi fX f (quoP p a m) j (fun k _ => quoP_lt (by omega) k) q1 (by omega)
    refine ⟨t, t1, ?_⟩
    have s1 : sy p e (lz a) X = sy p (j + d) (mz (lz (quoP p a m)) (lz m)) X := by
     subst hj
     exact sy_cgm (by omega) (mon_S he) (monS_mz (mon_S q1) (mon_S hi.2.1)) fX q2
    rw [s1]
    refine em_trans (sy_two hp (mon_S q1) (mon_S hi.2.1) (fin_lz _) (fin_lz _) fX) (em_trans (em_mul t2 (em_refl _ _)) (em_of ?_))
    show _ * _ * _ = (sy p d (lz m) X : Int) ^ ((dvo p m f (quoP p a m)).1 + 1) * _
    rw [Int.pow_succ, Int.mul_assoc, Int.mul_comm (sy p t _ X : Int), ← Int.mul_assoc]
  · rw [dvo, if_neg hz]
    exact ⟨e, he, by rw [Int.pow_zero, Int.one_mul]; exact em_refl _ _⟩
/-- the product over the factors -/
def owp (p : Nat) (x : Nat → Nat) : List (Nat × Nat) → Int
 | [] => 1
 | q :: l => (ow p x q.1 : Int) ^ q.2 * owp p x l
theorem owp_append (p : Nat) (x : Nat → Nat) : ∀ l k, owp p x (l ++ k) = owp p x l * owp p x k
 | [], k => by rw [List.nil_append, owp, Int.one_mul]
 | q :: l, k => by rw [List.cons_append, owp, owp, owp_append p x l k, Int.mul_assoc]
theorem foR_sy {p n : Nat} {x : Nat → Nat} (hp : p = 2 ∨ p = 3 ∨ p = 5 ∨ p = 7) (hn : 1 ≤ n) (hn2 : n < 64) (hx : ∀ k, k < 64 → x k < p) : ∀ (ms : List Nat) (a : Nat → Nat) (e : Nat), okL p n ms → (∀ k, k < 64 → a k < p) → mon a e → e ≤ 12 → lowf p n a →
 ∃ j, mon (foR p ms a).2 j ∧ j ≤ 12 ∧ em p (sy p e (lz a) (lz x)) (owp p x (foR p ms a).1 * (sy p j (lz (foR p ms a).2) (lz x) : Int))
 | [], a, e, _, ha, he, h12, _ => ⟨e, he, h12, by rw [foR, owp, Int.one_mul]; exact em_refl _ _⟩
 | N :: ms, a, e, hms, ha, he, h12, hl => by
  have hN := hms N (by simp)
  have hms' : okL p n ms := fun M hM => hms M (by simp [hM])
  have h0 : 0 ≤ deg a := by rw [he.1]; omega
  have hNp : ∀ k, k < 64 → ofN p N k < p := fun k _ => ofN_lt (by omega) N k
  by_cases hdv : dv p (lz (ofN p N)) (lz a)
  · have hi := mon_div_irr hp hn hn2 hl hN hdv
    have hne := dv_deg ha hi.2.1 hdv h0
    rw [he.1] at hne
    obtain ⟨s1, s2, s3, s4, s5, s6, s7⟩ := dvo_spec hp hi 64 a ha h0 (by have := (zdb a).2; omega)
    obtain ⟨t, t1, t2⟩ := dvo_sy (X := lz x) hp hi (fin_lz x) 64 a e ha he (by omega)
    have hk := s6.1 hdv
    have ht : t ≤ 12 := by
     rw [t1.1, he.1] at s3; omega
    obtain ⟨j, j1, j12, j2⟩ := foR_sy hp hn hn2 hx ms (dvo p (ofN p N) 64 a).2 t hms' s1 t1 ht (lowf_dv s5 hl)
    refine ⟨j, by rw [foR]; exact j1, j12, ?_⟩
    rw [foR, if_pos hk]
    show em p _ (owp p x ([(N, (dvo p (ofN p N) 64 a).1)] ++ (foR p ms (dvo p (ofN p N) 64 a).2).1) * _)
    rw [owp_append, owp, owp, Int.mul_one, ow_sy hp hi (by omega) hx, Int.mul_assoc]
    exact em_trans t2 (em_mul (em_refl _ _) j2)
  · have hno := dvo_no hp ha hNp (by rw [(mon_ofN (by omega) hn2 hN).1]; omega) hdv 64
    rw [foR, hno]
    simp only [Nat.lt_irrefl, if_false, List.nil_append]
    exact foR_sy hp hn hn2 hx ms a e hms' ha he h12 hl
theorem run_sy {p : Nat} {x : Nat → Nat} (hp : p = 2 ∨ p = 3 ∨ p = 5 ∨ p = 7) (hx : ∀ k, k < 64 → x k < p) : ∀ (f n : Nat) (a : Nat → Nat) (e : Nat), 1 ≤ n → 64 ≤ n + f → (∀ k, k < 64 → a k < p) → mon a e → e ≤ 12 → lowf p n a →
 em p (sy p e (lz a) (lz x)) (owp p x (run p f n a))
 | f, n, a, e, hn, hf, ha, he, h12, hl => by
  by_cases hz : deg a ≤ 0
  · rw [run_z hz]
    have e0 : e = 0 := by have := he.1; omega
    subst e0
    rw [one_of_mon0 he, sy_one (by omega), owp]
    exact em_refl _ _
  · have hle := low_deg hp ha (by omega) hl
    rw [he.1] at hle
    cases f with
    | zero => omega
    | succ f =>
     have hok : okL p n (monL p n) := fun N hN => hN
     obtain ⟨s1, s2, s3, s4, s5⟩ := foR_spec hp hn (by omega) (monL p n) a hok ha (by omega) hl
     obtain ⟨j, j1, j12, j2⟩ := foR_sy hp hn (by omega) hx (monL p n) a e hok ha he h12 hl
     rw [run_s hz, owp_append]
     exact em_trans j2 (em_mul (em_refl _ _) (run_sy hp hx f (n + 1) _ j (by omega) (by omega) s1 j1 j12 (lowf_next (by omega) hl s4 s5)))
/-- the symbol of two polynomials -/
noncomputable def sbN (p : Nat) (x m : Nat → Nat) : Nat := sy p (deg m).toNat (lz m) (lz x)
theorem sb_run {p d : Nat} {x m : Nat → Nat} (hp : p = 2 ∨ p = 3 ∨ p = 5 ∨ p = 7) (hx : ∀ k, k < 64 → x k < p) (hm : ∀ k, k < 64 → m k < p) (hd : mon m d) (h12 : d ≤ 12) : em p (sbN p x m) (owp p x (run p 64 1 m)) := by
 unfold sbN
 rw [hd.1, Int.toNat_natCast]
 exact run_sy hp hx 64 1 m d (by omega) (by omega) hm hd h12 (lowf_one m)
theorem sbN_lt {p : Nat} {x m : Nat → Nat} (hp : 0 < p) : sbN p x m < p := sy_lt hp
/-- the program's way down: modulo a number -/
theorem sb_one {p : Nat} {x m : Nat → Nat} (hp : 2 ≤ p) (hd : mon m 0) : sbN p x m = 1 := by
 unfold sbN
 rw [hd.1, one_of_mon0 hd]
 exact sy_one hp
theorem sb_null {p d : Nat} {x m : Nat → Nat} (hp : p = 2 ∨ p = 3 ∨ p = 5 ∨ p = 7) (hx : ∀ k, k < 64 → x k < p) (hm : ∀ k, k < 64 → m k < p) (hd : mon m d) (h1 : 1 ≤ d) (h : deg (resP p x m) < 0) : sbN p x m = 0 := by
 unfold sbN
 rw [hd.1, Int.toNat_natCast]
 refine sy_null hp (mon_S hd) h1 (fin_lz x) ?_
 have := res_rm hp hx hm (by rw [hd.1]; omega)
 rwa [lz_neg h] at this
/-- one step: l is the leading coefficient of the rest, made monic it is R -/
theorem sb_step {p d e : Nat} {x m R : Nat → Nat} (hp : p = 2 ∨ p = 3 ∨ p = 5 ∨ p = 7) (hx : ∀ k, k < 64 → x k < p) (hm : ∀ k, k < 64 → m k < p) (hd : mon m d) (he : deg (resP p x m) = (e : Int))
 (hR : ∀ k, k < 64 → R k = invN p (resP p x m e) * resP p x m k % p) : mon R e ∧ sbN p x m = (resP p x m e) ^ d * (if e % 2 = 1 ∧ d % 2 = 1 then p - 1 else 1) * sbN p m R % p := by
 have hp0 : 0 < p := by omega
 have h0 : 0 ≤ deg m := by rw [hd.1]; omega
 obtain ⟨r, hr⟩ : ∃ r, r = resP p x m := ⟨_, rfl⟩
 have rl : ∀ k, k < 64 → r k < p := fun k hk => by rw [hr]; exact resP_lt hp0 hx k hk
 have rm1 := res_rm hp hx hm h0
 rw [← hr] at he hR rm1 ⊢
 obtain ⟨e6, e0, ez⟩ := deg_top he
 obtain ⟨i1, i2, i3, i4⟩ := invF hp e0 (rl e e6)
 have hRe : R e = 1 := by rw [hR e e6]; exact i3
 have mR : mon R e := by
  refine ⟨?_, hRe⟩
  have a : deg R ≤ (e : Int) := deg_le (by omega) (fun k hk h6 => by rw [hR k h6, ez k (by omega) h6]; simp)
  have b : ¬ deg R < (e : Int) := fun h => by have := zero_above h e6; omega
  omega
 refine ⟨mR, ?_⟩
 have hl : ¬ (p : Int) ∣ (r e : Int) := fun h => by
  have := dvd_small h (by omega) (by have := rl e e6; omega)
  omega
 -- the rest is l times R
 have hrR : cg p (lz r) (cz (r e : Int) (lz R)) := fun k => by
  unfold cz lz
  by_cases hk : k < 64
  · rw [cut_in _ hk, cut_in _ hk, hR k hk]
    have h1 := mod_dvd p (invN p (r e) * r k)
    have h2 : em p ((r e : Int) * ((invN p (r e) * r k % p : Nat) : Int)) ((r e : Int) * ((invN p (r e) * r k : Nat) : Int)) := em_mul (em_refl _ _) h1
    have h3 : (r e : Int) * ((invN p (r e) * r k : Nat) : Int) = ((invN p (r e) * r e : Nat) : Int) * (r k : Int) := by
     push_cast
     rw [← Int.mul_assoc, Int.mul_comm (r e : Int)]
    have h4 : em p ((invN p (r e) * r e : Nat) : Int) 1 := by
     have h5 := mod_dvd p (invN p (r e) * r e)
     rw [i3] at h5
     exact em_symm h5
    rw [h3] at h2
    have h6 := em_mul h4 (em_refl p (r k : Int))
    rw [Int.one_mul] at h6
    exact em_symm (em_trans h2 h6)
  · rw [zcz _ (by omega), zcz _ (by omega)]; exact ⟨0, by simp⟩
 have h1 := sy_down hp (mon_S hd) (mon_S mR) (fin_lz m) (fin_lz R) (fin_lz x) hl (rm_trans rm1 (rm_of_cg hrR))
 have hs : sbN p m R = sy p e (lz R) (lz m) := by unfold sbN; rw [mR.1, Int.toNat_natCast]
 have hv : sbN p x m = sy p d (lz m) (lz x) := by unfold sbN; rw [hd.1, Int.toNat_natCast]
 rw [hs, hv]
 refine nat_em (sy_lt hp0) (Nat.mod_lt _ hp0) (em_trans h1 ?_)
 refine em_symm (em_trans (mod_dvd p _) ?_)
 obtain ⟨S, hS⟩ : ∃ S, S = sy p e (lz R) (lz m) := ⟨_, rfl⟩
 rw [← hS]
 push_cast
 refine em_mul (em_mul (em_refl _ _) ?_) (em_refl _ _)
 have p1 : em p ((p - 1 : Nat) : Int) (-1) := ⟨1, by omega⟩
 by_cases h : e % 2 = 1 ∧ d % 2 = 1
 · rw [if_pos h]
   have h2 : (d * e) % 2 = 1 % 2 := by rw [Nat.mul_mod, h.1, h.2]
   refine em_trans p1 (em_symm (em_trans (em_sign (.inr h2)) (em_of ?_)))
   rfl
 · rw [if_neg h]
   have h2 : (d * e) % 2 = 0 % 2 := by
    rcases Nat.mod_two_eq_zero_or_one d with hd2 | hd2 <;> rcases Nat.mod_two_eq_zero_or_one e with he2 | he2 <;> rw [Nat.mul_mod, hd2, he2]
    exact absurd ⟨he2, hd2⟩ h
   refine em_symm (em_trans (em_sign (.inr h2)) (em_of ?_))
   rfl
end Go.Proofs.Ytobcdekochenfaa
end
section
namespace Go.Proofs.Ytobcdekochenfaa
open Go Go.RowKit Go.ChangeMaps
open Go.Maps (Keyed)
/-- block b is a map with the entries L, keys of type k -/
def MapG (P : Program) (k : TypeId) (w : World) (b : Nat) (L : List (Value × Value)) : Prop :=
 ∃ es clock, w.heap[b]? = some (.map es clock) ∧ es.toList.map (fun e => (e.key, e.val)) = L ∧ ∀ e ∈ es.toList, ∃ l, keyOf P k e.key = some l
theorem MapG.lt {P : Program} {k : TypeId} {w : World} {b : Nat} {L : List (Value × Value)} (h : MapG P k w b L) : b < w.heap.size := by
 obtain ⟨es, clock, hb, _⟩ := h
 exact (Array.getElem?_eq_some_iff.1 hb).1
theorem MapG.new (P : Program) (k : TypeId) (w : World) : MapG P k (w.alloc (.map #[] 0)) w.heap.size [] := ⟨#[], 0, (MapKept.heap_alloc w _).1, rfl, by simp⟩
theorem MapG.of {P : Program} {k : TypeId} {w w' : World} {b : Nat} {L : List (Value × Value)} (h : MapG P k w b L) (e : w'.heap[b]? = w.heap[b]?) : MapG P k w' b L := by
 obtain ⟨es, clock, hb, r⟩ := h
 exact ⟨es, clock, e.trans hb, r⟩
theorem MapG.alloc {P : Program} {k : TypeId} {w : World} {b : Nat} {L : List (Value × Value)} (h : MapG P k w b L) (o : Obj) : MapG P k (w.alloc o) b L := h.of (Below.heap_alloc _ _ _ h.lt)
theorem MapG.drew {P : Program} {k : TypeId} {w : World} {b : Nat} {L : List (Value × Value)} (h : MapG P k w b L) : MapG P k w.drew b L := h
theorem MapG.below {P : Program} {k : TypeId} {w w' : World} {B b : Nat} {L : List (Value × Value)} (h : MapG P k w b L) (hb : Below B w w') (e : b < B) : MapG P k w' b L := h.of (hb.block b e)
theorem MapG.zw {P : Program} {k : TypeId} {w w' : World} {b : Nat} {L : List (Value × Value)} (h : MapG P k w b L) (hb : Below w.heap.size w w') : MapG P k w' b L := MapG.below h hb (MapG.lt h)
theorem MapG.setOther {P : Program} {k : TypeId} {w : World} {b : Nat} {L : List (Value × Value)} (h : MapG P k w b L) {a : Addr} {v : Value} (e : b ≠ a.block) : MapG P k (w.setCell a v) b L := h.of (heap_setCell_other _ _ _ _ e)
theorem MapG.rowOther {P : Program} {k : TypeId} {w : World} {b : Nat} {L : List (Value × Value)} (h : MapG P k w b L) {j : Nat} {cs : Array Value} (e : b ≠ j) : MapG P k (w.setRow j cs) b L := h.of (setRow_other _ _ _ _ e)
/-- block b is one cell that holds v -/
def One (w : World) (b : Nat) (t : TypeId) (v : Value) : Prop := w.heap[b]? = some (.cells #[v] t (0, 0))
theorem One.new (w : World) (t : TypeId) (v : Value) : One (w.alloc (.cells #[v] t)) w.heap.size t v := heap_alloc_last w _
theorem One.lt {w : World} {b : Nat} {t : TypeId} {v : Value} (h : One w b t v) : b < w.heap.size := by
 unfold One at h
 exact (Array.getElem?_eq_some_iff.1 h).1
theorem One.cell {w : World} {b : Nat} {t : TypeId} {v : Value} (h : One w b t v) : w.cell? ⟨b, 0, none⟩ = some v := by
 rw [cell_of_row _ _ _ _ _ _ h]; rfl
theorem One.frozen {w : World} {b : Nat} {t : TypeId} {v : Value} (h : One w b t v) (i : Nat) : w.frozen? ⟨b, i, none⟩ = false := frozen_of_row _ _ _ _ _ h
theorem One.of {w w' : World} {b : Nat} {t : TypeId} {v : Value} (h : One w b t v) (e : w'.heap[b]? = w.heap[b]?) : One w' b t v := by unfold One at *; rw [e]; exact h
theorem One.alloc {w : World} {b : Nat} {t : TypeId} {v : Value} (h : One w b t v) (o : Obj) : One (w.alloc o) b t v := h.of (Below.heap_alloc _ _ _ h.lt)
theorem One.drew {w : World} {b : Nat} {t : TypeId} {v : Value} (h : One w b t v) : One w.drew b t v := h
theorem One.below {w w' : World} {B b : Nat} {t : TypeId} {v : Value} (h : One w b t v) (hb : Below B w w') (e : b < B) : One w' b t v := h.of (hb.block b e)
theorem One.zw {w w' : World} {b : Nat} {t : TypeId} {v : Value} (h : One w b t v) (hb : Below w.heap.size w w') : One w' b t v := One.below h hb (One.lt h)
theorem One.setOther {w : World} {b : Nat} {t : TypeId} {v x : Value} (h : One w b t v) {a : Addr} (e : b ≠ a.block) : One (w.setCell a x) b t v := h.of (heap_setCell_other _ _ _ _ e)
theorem One.rowOther {w : World} {b : Nat} {t : TypeId} {v : Value} (h : One w b t v) {j : Nat} {cs : Array Value} (e : b ≠ j) : One (w.setRow j cs) b t v := h.of (setRow_other _ _ _ _ e)
theorem One.grown {w w' : World} {b j : Nat} {t : TypeId} {v : Value} (h : One w b t v) (hg : w.grownBy w' (some j)) (e : b ≠ j) : One w' b t v := h.of (hg.block b h.lt (fun x => e (by cases x; rfl)))
/-- the look-up at a key -/
theorem MapG.look {P : Program} {k e t : TypeId} (K : Keyed P k) (ht : P.underlying t = some (.map k e)) {w : World} {b : Nat} {L : List (Value × Value)} (h : MapG P k w b L) {z : Value} (hz : (zeroValue e).run P w = .ok z w) (c : Bool) {key : Value} {kl : Lit} (hkey : keyOf P k key = some kl) :
 ((Instr.lookup t (.map (some b)) key c).run P w = .ok (if c then .tuple #[z, .bool false] else z) w ∧ ∀ q ∈ L, q.1 ≠ key) ∨
 ∃ v, (key, v) ∈ L ∧ (Instr.lookup t (.map (some b)) key c).run P w = .ok (if c then .tuple #[v, .bool true] else v) w := by
 obtain ⟨es, clock, hb, rfl, hr⟩ := h
 rcases K.find w hkey es.toList hr with ⟨h1, h2⟩ | ⟨j, e0, h1, h2, h3⟩
 · refine .inl ⟨by simp [Instr.lookup, run_underlying ht, MapKept.run_getObj_map hb, K.check w _ hkey, h1, hz, Result.andThen], ?_⟩
   intro q hq
   obtain ⟨e, he, rfl⟩ := List.mem_map.1 hq
   exact h2 e he
 · refine .inr ⟨e0.val, ?_, by simp [Instr.lookup, run_underlying ht, MapKept.run_getObj_map hb, K.check w _ hkey, h1, Result.andThen]⟩
   exact List.mem_map.2 ⟨e0, List.mem_of_getElem? h2, by rw [h3]⟩
/-- a new key -/
theorem MapG.put {P : Program} {k e t : TypeId} (K : Keyed P k) (ht : P.underlying t = some (.map k e)) {w : World} {b : Nat} {L : List (Value × Value)} (h : MapG P k w b L) {key val : Value} {kl : Lit} (hkey : keyOf P k key = some kl) (hn : ∀ q ∈ L, q.1 ≠ key) :
 ∃ w', (Instr.mapUpdate t (.map (some b)) key val).run P w = .ok () w' ∧ MapG P k w' b (L ++ [(key, val)]) ∧ w.grownBy w' (some b) := by
 obtain ⟨es, clock, hb, rfl, hr⟩ := h
 rcases K.find w hkey es.toList hr with ⟨h1, h2⟩ | ⟨j, e0, h1, h2, h3⟩
 · refine ⟨setBlock w b (.map (es.push ⟨key, val, clock⟩) (clock + 1)), ?_, ⟨_, _, heap_setBlock_same hb _, by simp, ?_⟩, ⟨rfl, rfl, rfl, by simp [setBlock], fun i _ hi => heap_setBlock_other hb _ (fun e => hi (by rw [e]))⟩⟩
   · simp [Instr.mapUpdate, run_underlying ht, MapKept.run_getObj_map hb, K.check w false hkey, h1, MapKept.run_setObj_map _ hb, Result.andThen, setBlock]
   · intro x hx
     simp only [Array.toList_push, List.mem_append, List.mem_singleton] at hx
     rcases hx with hx | rfl
     · exact hr x hx
     · exact ⟨_, hkey⟩
 · exact absurd h3 (hn (e0.key, e0.val) (List.mem_map.2 ⟨e0, List.mem_of_getElem? h2, rfl⟩))
/-- what a store into the map leaves of another block -/
theorem Blk.grown {w w' : World} {b n j : Nat} {t : TypeId} {f : Nat → Nat} (h : Blk w b n t f) (hg : w.grownBy w' (some j)) (e : b ≠ j) : Blk w' b n t f := by
 have hl := h.lt
 unfold Blk at *; rw [hg.block b hl (fun x => e (by cases x; rfl))]; exact h
attribute [irreducible] MapG One
end Go.Proofs.Ytobcdekochenfaa
end
section
namespace Go.Proofs.Ytobcdekochenfaa
theorem pow_big {p k : Nat} (h1 : 1 ≤ p) (h2 : p ≤ 7) (hk : k ≤ 20) : 1 ≤ p ^ k ∧ p ^ k ≤ 79792266297612001 := by
 have a1 : p ^ k ≤ 7 ^ k := Nat.pow_le_pow_left h2 k
 have a2 : 7 ^ k ≤ 7 ^ 20 := Nat.pow_le_pow_right (by omega) hk
 have a3 : 1 ≤ p ^ k := Nat.pow_pos (by omega)
 have a4 : 7 ^ 20 = 79792266297612001 := by decide
 omega
end Go.Proofs.Ytobcdekochenfaa
namespace Go.Proofs.Ytobcdekochenfaa
open Go.RowKit
set_option linter.unusedVariables false
set_option linter.unusedSimpArgs false
theorem l02Power_any (p n : Nat) (w : World) (hp1 : 2 ≤ p) (hp2 : p ≤ 7) (hn : n ≤ 20) :
 Calls Try.prog 146 #[.int .i64 (p : Int), .int .i64 (n : Int)] w fun e w' => e = .returned (.int .i64 ((p ^ n : Nat) : Int)) ∧ w = w' := by
 go_enter Try.func146, Try.ntmps146
 go_wp2_with fail
 go_loopw [5, 1] (fun x i wr => ∃ k j X : Nat, k + j = n ∧ X = p ^ k ∧ x = .int .i64 (X : Int) ∧ i = .int .i64 (j : Int) ∧ wr = w) (fun _ i _ => (intOf i).toNat)
 case atStart => exact ⟨0, n, 1, by omega, rfl, rfl, rfl, rfl⟩
 case round =>
  obtain ⟨k, j, X, hk, hX, rfl, rfl, rfl⟩ := hrel
  obtain ⟨x1, x2⟩ := pow_big (p := p) (k := k) (by omega) hp2 (by omega)
  rw [← hX] at x1 x2
  have HK := Lib.hid hk
  have hj20 : j ≤ 20 := by omega
  clear hk
  by_cases hlt : 0 < j
  · obtain ⟨y1, y2⟩ := pow_big (p := p) (k := k + 1) (by omega) hp2 (by have := HK.out; omega)
    rw [Nat.pow_succ, ← hX] at y1 y2
    have HX := Lib.hid hX; clear hX
    have z1 : ((X * p : Nat) : Int) ≤ 79792266297612001 := by omega
    have z2 : 1 ≤ ((X * p : Nat) : Int) := by omega
    rw [Int.natCast_mul] at z1 z2
    clear y1 y2
    go_wp2_with fail
    go_roundw
    case rel => exact ⟨k + 1, j - 1, X * p, by have := HK.out; omega, by rw [Nat.pow_succ, ← HX.out], by go_num, by rw [show ((j - 1 : Nat) : Int) = (j : Int) - 1 by omega], trivial⟩
    case measure => simp [intOf]; omega
  · have e : j = 0 := by omega
    subst e
    have HX := Lib.hid hX; clear hX
    go_wp2_with fail
    go_ret
    exact ⟨ret_int (congrArg (fun x : Nat => (x : Int)) (by rw [HX.out, show k = n by have := HK.out; omega])), rfl⟩
end Go.Proofs.Ytobcdekochenfaa
namespace Go.Proofs.Ytobcdekochenfaa
open Go Go.RowKit
set_option linter.unusedVariables false
/-- v is a slice of the rows cs, each of so many cells, in a block from base on (or nil) -/
def SlL (w : World) (base : Nat) (e : TypeId) (size : Nat) (v : Value) (cs : List (List Value)) : Prop := base ≤ w.heap.size ∧ (∀ c ∈ cs, c.length = size) ∧ w.ownsRow base e size v cs.length cs.flatten
theorem SlL.lt {w : World} {base : Nat} {e : TypeId} {size : Nat} {v : Value} {cs : List (List Value)} (h : SlL w base e size v cs) : base ≤ w.heap.size := h.1
theorem SlL.nil {w : World} {base : Nat} (e : TypeId) (size : Nat) (h : base ≤ w.heap.size) : SlL w base e size (.slice none 0 0) [] := ⟨h, by simp, World.ownsRow_nil _ _ _ _⟩
theorem SlL.grown {w w' : World} {base : Nat} {e : TypeId} {size : Nat} {v : Value} {cs : List (List Value)} {row : Option Nat} (h : SlL w base e size v cs) (hg : w.grownBy w' row) (hr : ∀ r, row = some r → r < base) : SlL w' base e size v cs :=
 ⟨Nat.le_trans h.1 hg.size, h.2.1, h.2.2.kept hg (by
  cases hv : v.ownBlock with
  | none => exact .inl rfl
  | some k =>
   right
   intro he
   have h1 := (h.2.2.lt k hv).1
   have h2 := hr k he.symm
   omega)⟩
theorem SlL.alloc {w : World} {base : Nat} {e : TypeId} {size : Nat} {v : Value} {cs : List (List Value)} (h : SlL w base e size v cs) (o : Obj) : SlL (w.alloc o) base e size v cs := h.grown (World.grownBy_alloc w o none) (fun r e => by cases e)
theorem SlL.drew {w : World} {base : Nat} {e : TypeId} {size : Nat} {v : Value} {cs : List (List Value)} (h : SlL w base e size v cs) : SlL w.drew base e size v cs := h
theorem SlL.below {w w' : World} {base : Nat} {e : TypeId} {size : Nat} {v : Value} {cs : List (List Value)} (h : SlL w base e size v cs) (hb : Below w.heap.size w w') (_ : base ≤ w.heap.size) : SlL w' base e size v cs :=
 h.grown (row := none) ⟨hb.os, hb.tape, hb.output, hb.size, fun k hk _ => hb.block k hk⟩ (fun r e => by cases e)
theorem SlL.zw {w w' : World} {base : Nat} {e : TypeId} {size : Nat} {v : Value} {cs : List (List Value)} (h : SlL w base e size v cs) (hb : Below w.heap.size w w') : SlL w' base e size v cs := SlL.below h hb (SlL.lt h)
theorem SlL.rowOther {w : World} {base : Nat} {e : TypeId} {size : Nat} {v : Value} {cs : List (List Value)} (h : SlL w base e size v cs) {k : Nat} {xs : Array Value} (hk : k < base) : SlL (w.setRow k xs) base e size v cs :=
 h.grown (row := some k) ⟨rfl, rfl, rfl, by simp [World.setRow], fun j _ hj => setRow_other _ _ _ _ (fun e => hj (by rw [e]))⟩ (fun r e => by cases e; exact hk)
theorem SlL.setOther {w : World} {base : Nat} {e : TypeId} {size : Nat} {v x : Value} {cs : List (List Value)} (h : SlL w base e size v cs) {a : Addr} (ha : a.block < base) : SlL (w.setCell a x) base e size v cs :=
 ⟨by simpa using h.1, h.2.1, ownsRow_setCell_below h.2.2 ha x⟩
theorem SlL.own {w : World} {base : Nat} {e : TypeId} {size : Nat} {v : Value} {cs : List (List Value)} (h : SlL w base e size v cs) : ∀ r, v.ownBlock = some r → base ≤ r := fun r hr => (h.2.2.lt r hr).1
theorem SlL.shape {w : World} {base : Nat} {e : TypeId} {size : Nat} {v : Value} {cs : List (List Value)} (h : SlL w base e size v cs) : (v = .slice none 0 0 ∧ cs = []) ∨ ∃ g cap, v = .slice (some ⟨g, 0, none⟩) cs.length cap := by
 obtain ⟨_, _, _, h | ⟨g, cap, cur, rfl, _⟩⟩ := h
 · exact .inl ⟨h.1, List.eq_nil_of_length_eq_zero h.2⟩
 · exact .inr ⟨g, cap, rfl⟩
theorem flat_at : ∀ (cs : List (List Value)) (size i : Nat) (c : List Value) (j : Nat) (u : Value), (∀ c ∈ cs, c.length = size) → cs[i]? = some c → c[j]? = some u → cs.flatten[i * size + j]? = some u
 | [], _, _, _, _, _, _, h, _ => by simp at h
 | g :: cs, size, 0, c, j, u, _, h, hj => by
  simp only [List.getElem?_cons_zero, Option.some.injEq] at h
  subst h
  rw [List.flatten_cons, Nat.zero_mul, Nat.zero_add, List.getElem?_append_left (List.getElem?_eq_some_iff.1 hj).1]
  exact hj
 | g :: cs, size, i + 1, c, j, u, hs, h, hj => by
  have hg : g.length = size := hs g (by simp)
  have e1 : (i + 1) * size = i * size + size := Nat.succ_mul i size
  rw [List.flatten_cons, List.getElem?_append_right (by rw [hg]; omega), hg]
  have := flat_at cs size i c j u (fun c hc => hs c (by simp [hc])) (by simpa using h) hj
  rw [show (i + 1) * size + j - size = i * size + j by omega]
  exact this
/-- the cells of one element -/
theorem SlL.range {w : World} {base : Nat} {e : TypeId} {size g n cap : Nat} {cs : List (List Value)} (h : SlL w base e size (.slice (some ⟨g, 0, none⟩) n cap) cs) {i : Nat} {c : List Value} (hi : cs[i]? = some c) : w.rangeAt g (i * size) c := by
 intro j u hu
 obtain ⟨_, hs, hl, h | ⟨g', cap', cur, hv, hg, hh, h1, h2, h3, h4⟩⟩ := h
 · cases h.1
 · injection hv with e1 e2 e3
   injection e1 with e1
   injection e1 with e1
   subst e1
   rw [cell_of_row _ _ _ _ _ _ hh]
   have hc : cs.flatten[i * size + j]? = some u := flat_at cs size i c j u hs hi hu
   rw [← h4] at hc
   have hlt : i * size + j < cs.length * size := by
    have := (List.getElem?_eq_some_iff.1 hc).1
    rw [List.length_take] at this
    omega
   rw [List.getElem?_take_of_lt hlt] at hc
   rw [← Array.getElem?_toList]
   exact hc
theorem One.row {w : World} {b : Nat} {t : TypeId} {v : Value} (h : One w b t v) (u : Value) : One (w.setRow b #[u]) b t u := by
 unfold One at *
 exact setRow_heap _ _ _ _ _ _ h
/-- append of one element -/
theorem wpList_append_sl {P : Program} (w : World) {ops : Array Oper} {rest : List Oper} {o : Oper} {a : Act} {Q : Exit → Act → World → Prop}
 (hg : o.guard = none) (s x : Operand) (t : TypeId) (hop : o.op = Op.call { callee := Callee.builtin Builtin.append, args := #[s, x], argTypes := #[t, t] })
 (base : Nat) (e : TypeId) (z : Value) (size bytes : Nat) (h1 : P.underlying t = some (.slice e)) (h2 : (P.info? e).map (fun i => (i.zero, i.size, i.bytes)) = some (some z, size, bytes)) (h6 : z.cells.size = size) (h7 : 0 < size)
 (v : Value) (cs : List (List Value)) (hs : a.eval s = v) (hown : SlL w base e size v cs) (g : Nat) (c : List Value) (hx : a.eval x = .slice (some ⟨g, 0, none⟩) 1 1) (hc : c.length = size)
 (hcell : w.rangeAt g 0 c) (h1c : ∀ u ∈ c, u.oneCell' = true) (b1 : cs.length + 1 ≤ maxLen) (b2 : (cs.length + 1) * bytes ≤ 140737488355328)
 (hK : ∀ v' w', SlL w' base e size v' (cs ++ [c]) → w.grownBy w' v.ownBlock → wpList P ops Q rest (a.put o.dst v') w') : wpList P ops Q (o :: rest) a w := by
 obtain ⟨i0, hi, hz0, hz1, hz2⟩ := info_parts h2
 refine wpList_append_own w hg s x t hop base e i0 z size bytes h1 hi hz0 hz1 hz2 h6 h7 v cs.length cs.flatten hs hown.2.2 ⟨g, 0, none⟩ 1 1 c hx (by omega) (fun j u hu => ?_) h1c b1 b2 hown.1 ?_
 · have := hcell j u hu
   rw [Nat.zero_add] at this
   have e : (⟨g, 0, none⟩ : Addr).add j = ⟨g, j, none⟩ := by unfold Addr.add; split <;> simp_all
   rw [e]; exact this
 · intro v' w' h1' h2' _
   refine hK v' w' ⟨Nat.le_trans hown.1 h2'.size, fun d hd => ?_, by simpa using h1'⟩ h2'
   rcases List.mem_append.1 hd with h | h
   · exact hown.2.1 d h
   · rw [List.mem_singleton] at h; rw [h]; exact hc
/-- what lies below the slice's block stays -/
theorem Blk.grownO {w w' : World} {b n : Nat} {t : TypeId} {f : Nat → Nat} {row : Option Nat} (h : Blk w b n t f) (hg : w.grownBy w' row) {base : Nat} (hr : ∀ r, row = some r → base ≤ r) (e : b < base) : Blk w' b n t f := by
 have hl := h.lt
 unfold Blk at *; rw [hg.block b hl (fun x => by have := hr b x.symm; omega)]; exact h
theorem One.grownO {w w' : World} {b : Nat} {t : TypeId} {v : Value} {row : Option Nat} (h : One w b t v) (hg : w.grownBy w' row) {base : Nat} (hr : ∀ r, row = some r → base ≤ r) (e : b < base) : One w' b t v :=
 h.of (hg.block b h.lt (fun x => by have := hr b x.symm; omega))
theorem SlL.one {w : World} {base : Nat} {e : TypeId} {size : Nat} {v : Value} {cs : List (List Value)} (h : SlL w base e size v cs) : v.oneCell' = true := by
 rcases h.shape with ⟨rfl, _⟩ | ⟨g, cap, rfl⟩ <;> rfl
theorem SlL.base {w : World} {base base' : Nat} {e : TypeId} {size : Nat} {v : Value} {cs : List (List Value)} (h : SlL w base e size v cs) (hb : base' ≤ base) : SlL w base' e size v cs := ⟨Nat.le_trans hb h.1, h.2.1, by
 obtain ⟨_, _, hl, h | ⟨g, cap, cur, hv, hg', r⟩⟩ := h
 · exact ⟨hl, .inl h⟩
 · exact ⟨hl, .inr ⟨g, cap, cur, hv, Nat.le_trans hb hg', r⟩⟩⟩
/-- .. whose block lies below top -/
def SlT (w : World) (base top : Nat) (e : TypeId) (size : Nat) (v : Value) (cs : List (List Value)) : Prop := SlL w base e size v cs ∧ ∀ r, v.ownBlock = some r → r < top
theorem SlL.top {w : World} {base : Nat} {e : TypeId} {size : Nat} {v : Value} {cs : List (List Value)} (h : SlL w base e size v cs) : SlT w base w.heap.size e size v cs := ⟨h, fun r hr => (h.2.2.lt r hr).2⟩
theorem SlT.lt {w : World} {base top : Nat} {e : TypeId} {size : Nat} {v : Value} {cs : List (List Value)} (h : SlT w base top e size v cs) : base ≤ w.heap.size := h.1.1
theorem SlT.alloc {w : World} {base top : Nat} {e : TypeId} {size : Nat} {v : Value} {cs : List (List Value)} (h : SlT w base top e size v cs) (o : Obj) : SlT (w.alloc o) base top e size v cs := ⟨h.1.alloc o, h.2⟩
theorem SlT.drew {w : World} {base top : Nat} {e : TypeId} {size : Nat} {v : Value} {cs : List (List Value)} (h : SlT w base top e size v cs) : SlT w.drew base top e size v cs := h
theorem SlT.below {w w' : World} {base top : Nat} {e : TypeId} {size : Nat} {v : Value} {cs : List (List Value)} (h : SlT w base top e size v cs) (hb : Below w.heap.size w w') (hl : base ≤ w.heap.size) : SlT w' base top e size v cs := ⟨h.1.below hb hl, h.2⟩
theorem SlT.zw {w w' : World} {base top : Nat} {e : TypeId} {size : Nat} {v : Value} {cs : List (List Value)} (h : SlT w base top e size v cs) (hb : Below w.heap.size w w') : SlT w' base top e size v cs := SlT.below h hb (SlT.lt h)
theorem SlT.rowOther {w : World} {base top : Nat} {e : TypeId} {size : Nat} {v : Value} {cs : List (List Value)} (h : SlT w base top e size v cs) {k : Nat} {xs : Array Value} (hk : k < base ∨ top ≤ k) : SlT (w.setRow k xs) base top e size v cs :=
 ⟨⟨by simpa [World.setRow] using h.1.1, h.1.2.1, h.1.2.2.kept (row := some k) ⟨rfl, rfl, rfl, by simp [World.setRow], fun j _ hj => setRow_other _ _ _ _ (fun e => hj (by rw [e]))⟩ (by
  cases hv : v.ownBlock with
  | none => exact .inl rfl
  | some j =>
   right
   intro he
   cases he
   have h1 := (h.1.2.2.lt k hv).1
   have h2 := h.2 k hv
   omega)⟩, h.2⟩
theorem SlT.setOther {w : World} {base top : Nat} {e : TypeId} {size : Nat} {v x : Value} {cs : List (List Value)} (h : SlT w base top e size v cs) {a : Addr} (ha : a.block < base ∨ top ≤ a.block) : SlT (w.setCell a x) base top e size v cs :=
 ⟨⟨by simpa using h.1.1, h.1.2.1, h.1.2.2.kept (row := some a.block) ⟨((Below.refl 0 w).setCell (Nat.zero_le _) x).os, ((Below.refl 0 w).setCell (Nat.zero_le _) x).tape, ((Below.refl 0 w).setCell (Nat.zero_le _) x).output, by simp, fun j _ hj => Below.heap_setCell _ _ _ _ (fun e => hj (by rw [e]))⟩ (by
  cases hv : v.ownBlock with
  | none => exact .inl rfl
  | some j =>
   right
   intro he
   have he2 : j = a.block := by injection he
   subst he2
   have h1 := (h.1.2.2.lt a.block hv).1
   have h2 := h.2 a.block hv
   omega)⟩, h.2⟩
theorem SlL.some {w : World} {base : Nat} {e : TypeId} {size n cap : Nat} {ad : Option Addr} {cs : List (List Value)} (h : SlL w base e size (.slice ad n cap) cs) (hn : 0 < cs.length) : ∃ g, ad = some ⟨g, 0, none⟩ := by
 rcases h.shape with ⟨_, h2⟩ | ⟨g, cap', h1⟩
 · rw [h2] at hn; simp at hn
 · injection h1 with h1; exact ⟨g, h1⟩
/-- block b is the row cs -/
def Row (w : World) (b : Nat) (t : TypeId) (cs : Array Value) : Prop := w.heap[b]? = some (.cells cs t (0, 0))
theorem Row.new (w : World) (t : TypeId) (cs : Array Value) : Row (w.alloc (.cells cs t)) w.heap.size t cs := heap_alloc_last w _
theorem Row.lt {w : World} {b : Nat} {t : TypeId} {cs : Array Value} (h : Row w b t cs) : b < w.heap.size := by
 unfold Row at h
 exact (Array.getElem?_eq_some_iff.1 h).1
theorem Row.of {w w' : World} {b : Nat} {t : TypeId} {cs : Array Value} (h : Row w b t cs) (e : w'.heap[b]? = w.heap[b]?) : Row w' b t cs := by unfold Row at *; rw [e]; exact h
theorem Row.alloc {w : World} {b : Nat} {t : TypeId} {cs : Array Value} (h : Row w b t cs) (o : Obj) : Row (w.alloc o) b t cs := h.of (Below.heap_alloc _ _ _ h.lt)
theorem Row.drew {w : World} {b : Nat} {t : TypeId} {cs : Array Value} (h : Row w b t cs) : Row w.drew b t cs := h
theorem Row.below {w w' : World} {B b : Nat} {t : TypeId} {cs : Array Value} (h : Row w b t cs) (hb : Below B w w') (e : b < B) : Row w' b t cs := h.of (hb.block b e)
theorem Row.zw {w w' : World} {b : Nat} {t : TypeId} {cs : Array Value} (h : Row w b t cs) (hb : Below w.heap.size w w') : Row w' b t cs := Row.below h hb (Row.lt h)
theorem Row.rowOther {w : World} {b : Nat} {t : TypeId} {cs : Array Value} (h : Row w b t cs) {j : Nat} {xs : Array Value} (e : b ≠ j) : Row (w.setRow j xs) b t cs := h.of (setRow_other _ _ _ _ e)
theorem Row.setOther {w : World} {b : Nat} {t : TypeId} {cs : Array Value} {x : Value} (h : Row w b t cs) {a : Addr} (e : b ≠ a.block) : Row (w.setCell a x) b t cs := h.of (heap_setCell_other _ _ _ _ e)
theorem Row.row {w : World} {b : Nat} {t : TypeId} {cs : Array Value} (h : Row w b t cs) (xs : Array Value) : Row (w.setRow b xs) b t xs := by
 unfold Row at *
 exact setRow_heap _ _ _ _ _ _ h
theorem Row.cell {w : World} {b : Nat} {t : TypeId} {cs : Array Value} (h : Row w b t cs) {i : Nat} {v : Value} (hi : cs[i]? = some v) : w.cell? ⟨b, i, none⟩ = some v := by
 rw [cell_of_row _ _ _ _ _ _ h]; exact hi
theorem Row.frozen {w : World} {b : Nat} {t : TypeId} {cs : Array Value} (h : Row w b t cs) (i : Nat) : w.frozen? ⟨b, i, none⟩ = false := frozen_of_row _ _ _ _ _ h
theorem Row.set {w : World} {b i : Nat} {t : TypeId} {cs : Array Value} {x : Value} (h : Row w b t cs) : Row (w.setCell ⟨b, i, none⟩ x) b t (cs.setIfInBounds i x) := by
 unfold Row at *
 rw [heap_setCell_same _ _ _ _ _ _ h]
/-- a literal of one element -/
theorem wpList_build1 {P : Program} {ops : Array Oper} {rest : List Oper} {o : Oper} {a : Act} {w : World} {Q : Exit → Act → World → Prop} (hg : o.guard = none) (t : TypeId) (parts : Array (Nat × Operand)) (c : List Value) (size : Nat)
 (ho : o.op = .buildSlice t 1 parts) (e : TypeId) (hu : P.underlying t = some (.slice e)) (hie : (P.info? e).map (fun i => (i.size, i.zero.isSome)) = some (size, true)) (hpos : 0 < size) (hsm : size ≤ 65536) (hc : c.length = size)
 (hp : (parts.toList.map fun x => (x.1, a.eval x.2)) = [(0, Value.agg c.toArray)])
 (h : ∀ w', Row w' w.heap.size e c.toArray → Below w.heap.size w w' → wpList P ops Q rest (a.put o.dst (.slice (some ⟨w.heap.size, 0, none⟩) 1 1)) w') : wpList P ops Q (o :: rest) a w := by
 cases hi : P.info? e with
 | none => simp [hi] at hie
 | some ie =>
  simp only [hi, Option.map_some, Option.some.injEq, Prod.mk.injEq] at hie
  obtain ⟨hs, hz⟩ := hie
  obtain ⟨z, hzz⟩ := Option.isSome_iff_exists.1 hz
  refine wpList_buildSlice hg t e 1 parts ho _ ie z hu hi hzz (by rw [hs]; omega) (by rw [hs]; omega) ?_ (h _ (Row.new w e c.toArray) (zal _ _))
  rw [Array.toList_map, hp, hs]
  have := fill_cat size [c] 0 [] ((Array.range (1 * size)).map (z.cells[· % z.cells.size]!)).toList (by simpa using hc) (by simp) (by simp)
  rw [List.nil_append, List.nil_append, Array.toArray_toList] at this
  simpa using this
theorem Row.range {w : World} {b : Nat} {t : TypeId} {c : List Value} (h : Row w b t c.toArray) : w.rangeAt b 0 c := by
 intro j v hv
 rw [Nat.zero_add, cell_of_row _ _ _ _ _ _ h]
 simpa using hv
attribute [irreducible] Row
attribute [irreducible] SlL
end Go.Proofs.Ytobcdekochenfaa
namespace Go.Proofs.Ytobcdekochenfaa
open Go Go.RowKit
set_option linter.unusedVariables false
/-- what is no cells from B on lies as it lay -/
def KF (B : Nat) (W W' : World) : Prop := KeepsFrom B W W'
theorem KF.refl (B : Nat) (W : World) : KF B W W := KeepsFrom.refl B W
theorem KF.lt {B : Nat} {W W' : World} (h : KF B W W') : W.heap.size ≤ W'.heap.size := h.size
theorem KF.below {B : Nat} {W W1 W2 : World} (h : KF B W W1) (hb : Below W1.heap.size W1 W2) (_ : W.heap.size ≤ W1.heap.size) : KF B W W2 :=
 KeepsFrom.trans h ⟨hb.size, fun k _ _ hk _ => (hb.block k (Array.getElem?_eq_some_iff.1 hk).1).trans hk⟩
theorem KF.zw {B : Nat} {W W1 W2 : World} (h : KF B W W1) (hb : Below W1.heap.size W1 W2) : KF B W W2 := KF.below h hb (KF.lt h)
theorem KF.alloc {B : Nat} {W W1 : World} (h : KF B W W1) (o : Obj) : KF B W (W1.alloc o) := h.below (zal _ _) h.size
theorem KF.drew {B : Nat} {W W1 : World} (h : KF B W W1) : KF B W W1.drew := ⟨h.size, h.same⟩
theorem KF.rowOther {B : Nat} {W W1 : World} (h : KF B W W1) {k : Nat} {cs : Array Value} (e : k < B ∨ W.heap.size ≤ k) : KF B W (W1.setRow k cs) :=
 ⟨by simpa [World.setRow] using h.size, fun j o hB hj ho => by
  have hlt := (Array.getElem?_eq_some_iff.1 hj).1
  rw [setRow_other _ _ _ _ (by omega)]
  exact h.same j o hB hj ho⟩
theorem KF.grown {B : Nat} {W W1 W2 : World} {row : Option Nat} (h : KF B W W1) (hg : W1.grownBy W2 row) (hr : ∀ r, row = some r → ∃ cur t f, W1.heap[r]? = some (.cells cur t f)) : KF B W W2 :=
 KeepsFrom.trans h ⟨hg.size, fun k o _ hk ho => (hg.block k (Array.getElem?_eq_some_iff.1 hk).1 (fun e => by
  obtain ⟨cur, t, f, hc⟩ := hr k e.symm
  rw [hk] at hc; cases hc; cases ho)).trans hk⟩
/-- the block for deferred calls -/
def DF (W : World) (D : Nat) : Prop := W.heap[D]? = some (.deferred (some []))
theorem DF.lt {W : World} {D : Nat} (h : DF W D) : D < W.heap.size := (Array.getElem?_eq_some_iff.1 h).1
theorem DF.of {W W' : World} {D : Nat} (h : DF W D) (e : W'.heap[D]? = W.heap[D]?) : DF W' D := by unfold DF at *; rw [e]; exact h
theorem DF.below {W W' : World} {B D : Nat} (h : DF W D) (hb : Below B W W') (e : D < B) : DF W' D := h.of (hb.block D e)
theorem DF.zw {W W' : World} {D : Nat} (h : DF W D) (hb : Below W.heap.size W W') : DF W' D := DF.below h hb (DF.lt h)
theorem DF.alloc {W : World} {D : Nat} (h : DF W D) (o : Obj) : DF (W.alloc o) D := h.below (zal _ _) h.lt
theorem DF.drew {W : World} {D : Nat} (h : DF W D) : DF W.drew D := h
theorem DF.rowOther {W : World} {D k : Nat} {cs : Array Value} (h : DF W D) (e : D ≠ k) : DF (W.setRow k cs) D := h.of (setRow_other _ _ _ _ e)
theorem DF.grown {W W1 : World} {D : Nat} {row : Option Nat} (h : DF W D) (hg : W.grownBy W1 row) (hr : ∀ r, row = some r → ∃ cur t f, W.heap[r]? = some (.cells cur t f)) : DF W1 D :=
 h.of (hg.block D h.lt (fun e => by
  obtain ⟨cur, t, f, hc⟩ := hr D e.symm
  unfold DF at h
  rw [h] at hc; cases hc))
end Go.Proofs.Ytobcdekochenfaa
end
section
namespace Go.Proofs.Ytobcdekochenfaa
open Go Go.RowKit Go.Shelf
set_option linter.unusedVariables false
set_option linter.unusedSimpArgs false
attribute [local go_sem] Oper.semAt_some
/-- the numbers from a on, k of them -/
abbrev NumN (a k : Nat) := { N : Nat // N ∈ List.range' a k }
def vals {a k : Nat} (l : List (NumN a k)) : List Nat := l.map (·.1)
/-- the captured cells stay -/
def KpN (ba bb bp : Nat) (W W' : World) : Prop := W'.heap[ba]? = W.heap[ba]? ∧ W'.heap[bb]? = W.heap[bb]? ∧ W'.heap[bp]? = W.heap[bp]?
theorem KpN.refl (ba bb bp : Nat) (W : World) : KpN ba bb bp W W := ⟨rfl, rfl, rfl⟩
theorem KpN.trans {ba bb bp : Nat} {A B C : World} (h : KpN ba bb bp A B) (k : KpN ba bb bp B C) : KpN ba bb bp A C := ⟨k.1.trans h.1, k.2.1.trans h.2.1, k.2.2.trans h.2.2⟩
theorem KpN.put {ba bb bp : Nat} {w : World} (h0 : ba < w.heap.size) (h1 : bb < w.heap.size) (h2 : bp < w.heap.size) (W : World) (l : Nat) (o o' : Obj) (hl : w.heap.size ≤ l) (_ : W.heap[l]? = some o) (_ : o.isCells = false) (_ : o.isWalk = false) : KpN ba bb bp W (W.putObj l o') :=
 ⟨World.putObj_heap_other (by omega), World.putObj_heap_other (by omega), World.putObj_heap_other (by omega)⟩
theorem One.same {w w' : World} {b : Nat} {t : TypeId} {v : Value} (h : One w b t v) (h' : One w' b t v) : w'.heap[b]? = w.heap[b]? := by unfold One at *; rw [h, h']
theorem range_snoc (a k : Nat) : List.range' a (k + 1) = List.range' a k ++ [a + k] := by
 rw [List.range'_concat]; simp
theorem mon_bound {p n : Nat} (hp2 : p ≤ 7) (hn : n ≤ 12) : p ^ n ≤ 13841287201 := by
 have h1 : p ^ n ≤ 7 ^ n := Nat.pow_le_pow_left hp2 n
 have h2 : 7 ^ n ≤ 7 ^ 12 := Nat.pow_le_pow_right (by decide) hn
 have h3 : (7 : Nat) ^ 12 = 13841287201 := by decide
 omega
end Go.Proofs.Ytobcdekochenfaa
end
section
namespace Go.Proofs.Ytobcdekochenfaa
open Go.RowKit
set_option linter.unusedVariables false
set_option linter.unusedSimpArgs false
attribute [local irreducible] deg invN dS qS stp stpr quoP resP oneP dvo
theorem dvo_yes {p f : Nat} {m a : Nat → Nat} (h : deg (resP p a m) < 0) : dvo p m (f + 1) a = ((dvo p m f (quoP p a m)).1 + 1, (dvo p m f (quoP p a m)).2) := by rw [dvo, if_pos h]
theorem dvo_stop {p f : Nat} {m a : Nat → Nat} (h : ¬ deg (resP p a m) < 0) : dvo p m (f + 1) a = (0, a) := by rw [dvo, if_neg h]
end Go.Proofs.Ytobcdekochenfaa
namespace Go.Proofs.Ytobcdekochenfaa
open Go.RowKit
set_option linter.unusedVariables false
attribute [local irreducible] deg invN quoP resP
theorem quo_nz {p d : Nat} {a m : Nat → Nat} (hp : p = 2 ∨ p = 3 ∨ p = 5 ∨ p = 7) (ha : ∀ k, k < 64 → a k < p) (hmp : ∀ k, k < 64 → m k < p) (hm : mon m d) (h0 : 0 ≤ deg a) (hz : deg (resP p a m) < 0) : 0 ≤ deg (quoP p a m) ∧ deg (quoP p a m) + (d : Int) = deg a := by
 have p0 : 0 < p := by omega
 have hdv := (res_zero_iff hp ha hmp (by rw [hm.1]; omega)).1 hz
 obtain ⟨hc, hd⟩ := quo_exact hp ha hmp hm h0 hdv
 refine ⟨?_, hd⟩
 by_cases hq : 0 ≤ deg (quoP p a m)
 · exact hq
 · exfalso
   rw [lz_neg (by omega : deg (quoP p a m) < 0), zS_mz] at hc
   have hX00 : ∀ k, k < 64 → a k = 0 := fun k hk =>
    lz_inj ha (g := fun _ => 0) (fun _ _ => p0) (cg_trans hc (cg_eq (lz_neg (f := fun _ => 0) (by rw [deg_neg_iff]; intros; rfl)).symm)) k hk
   have := deg_neg_iff.2 hX00
   omega
theorem dvo_ok {p d : Nat} {m : Nat → Nat} (hp : p = 2 ∨ p = 3 ∨ p = 5 ∨ p = 7) (hmp : ∀ k, k < 64 → m k < p) (hm : mon m d) : ∀ (f : Nat) (a : Nat → Nat), (∀ k, k < 64 → a k < p) → 0 ≤ deg a → (∀ k, k < 64 → (dvo p m f a).2 k < p) ∧ 0 ≤ deg (dvo p m f a).2 ∧ deg (dvo p m f a).2 ≤ deg a ∧ (dvo p m f a).1 ≤ f
 | 0, a, ha, h0 => ⟨ha, h0, by show deg a ≤ deg a; omega, Nat.le_refl _⟩
 | f + 1, a, ha, h0 => by
  by_cases hz : deg (resP p a m) < 0
  · rw [dvo, if_pos hz]
    obtain ⟨q1, q2⟩ := quo_nz hp ha hmp hm h0 hz
    obtain ⟨r1, r2, r3, r4⟩ := dvo_ok hp hmp hm f (quoP p a m) (fun k _ => quoP_lt (by omega) k) q1
    exact ⟨r1, r2, by show deg (dvo p m f (quoP p a m)).2 ≤ deg a; omega, by show (dvo p m f (quoP p a m)).1 + 1 ≤ f + 1; omega⟩
  · rw [dvo, if_neg hz]
    exact ⟨ha, h0, by show deg a ≤ deg a; omega, by show 0 ≤ f + 1; omega⟩
end Go.Proofs.Ytobcdekochenfaa
namespace Go.Proofs.Ytobcdekochenfaa
open Go Go.RowKit
set_option linter.unusedVariables false
set_option linter.unusedSimpArgs false
attribute [local irreducible] deg invN dS qS stp stpr quoP resP oneP ofN dvo pmP run bzD bzU bzW subP lowf monL
/-- the cells of a factor -/
def facC (f : Nat → Nat) (k : Nat) : List Value := bl 64 f ++ [.int .i64 (k : Int)]
theorem facC_len (f : Nat → Nat) (k : Nat) : (facC f k).length = 65 := by simp [facC, bl]
theorem facC_one (f : Nat → Nat) (k : Nat) : ∀ u ∈ facC f k, u.oneCell' = true := by
 intro u hu
 unfold facC at hu
 rcases List.mem_append.1 hu with h | h
 · exact bl_one u h
 · rw [List.mem_singleton] at h; rw [h]; rfl
theorem facC_at (f : Nat → Nat) (k : Nat) : (facC f k).toArray[64]? = some (.int .i64 (k : Int)) := by simp [facC, bl]
theorem Try.infoFac : (Try.prog.info? 149).map (fun i => (i.zero, i.size, i.bytes)) = some (some (.agg (facC (fun _ => 0) 0).toArray), 65, 72) := by kernel_rfl
theorem Try.elemFac : (Try.prog.info? 149).map (fun i => (i.size, i.zero.isSome)) = some (65, true) := by kernel_rfl
def facRows (p : Nat) (L : List (Nat × Nat)) : List (List Value) := L.map fun x => facC (ofN p x.1) x.2
theorem facRows_snoc (p : Nat) (L : List (Nat × Nat)) (x : Nat × Nat) : facRows p (L ++ [x]) = facRows p L ++ [facC (ofN p x.1) x.2] := by simp [facRows]
theorem facRows_len (p : Nat) (L : List (Nat × Nat)) : (facRows p L).length = L.length := by simp [facRows]
/-- the heap has at least n blocks -/
def SzG (n : Nat) (W : World) : Prop := n ≤ W.heap.size
theorem SzG.lt {n : Nat} {W : World} (h : SzG n W) : n ≤ W.heap.size := h
theorem SzG.below {n B : Nat} {W W' : World} (h : SzG n W) (hb : Below B W W') (_ : n ≤ W.heap.size) : SzG n W' := Nat.le_trans h hb.size
theorem SzG.zw {n : Nat} {W W' : World} (h : SzG n W) (hb : Below W.heap.size W W') : SzG n W' := SzG.below h hb (SzG.lt h)
theorem SzG.alloc {n : Nat} {W : World} (h : SzG n W) (o : Obj) : SzG n (W.alloc o) := h.below (zal _ _) h
theorem SzG.drew {n : Nat} {W : World} (h : SzG n W) : SzG n W.drew := h
theorem SzG.rowOther {n k : Nat} {W : World} {cs : Array Value} (h : SzG n W) (_ : 0 ≤ k) : SzG n (W.setRow k cs) := by unfold SzG at *; simpa [World.setRow] using h
theorem SzG.setOther {n : Nat} {W : World} {a : Addr} {v : Value} (h : SzG n W) (_ : 0 ≤ a.block) : SzG n (W.setCell a v) := by unfold SzG at *; simpa using h
/-- what factorsOf hands back -/
def FaF (p : Nat) (f : Nat → Nat) (w : World) (e : Ending) (w' : World) : Prop := ∃ v, e = .returned v ∧ SlL w' w.heap.size 149 65 v (facRows p (run p 64 1 f)) ∧ Below w.heap.size w w'
end Go.Proofs.Ytobcdekochenfaa
namespace Go.Proofs.Ytobcdekochenfaa
open Go.RowKit
section
variable {P : Program} {Q : Exit → Act → World → Prop}
/-- what is asked of operation i, wanted or not -/
def StepG (P : Program) (ops : Array Oper) (Q : Exit → Act → World → Prop) (F : (Nat → Value) → Act) (Ψ : (Nat → Bool) → (Nat → Value) → World → Prop) (i : Nat) (o : Oper) : Prop :=
 ∀ (L : Nat → Bool) (v : Nat → Value) (w : World), (∀ e, e ∈ o.after → Region.binds .any e = true → L e.on = true) →
  (∀ j p, ops[j]? = some p → L j = true → ∀ e, e ∈ p.after → Region.binds .any e = true → e.on ≠ i) → Ψ L v w →
  ∀ K : Act → World → Prop, (∀ a' y w', a' = (F v).put o.dst y → Ψ (setL L i) (updV v i y) w' → K a' w') →
   if Region.wanted o (yielded ops (F v).tmps) = true then Oper.wp P o (F v) w K Q else K ((F v).put o.dst undef) w
inductive StepsG (P : Program) (ops : Array Oper) (Q : Exit → Act → World → Prop) (F : (Nat → Value) → Act) (Ψ : (Nat → Bool) → (Nat → Value) → World → Prop) : List Oper → Nat → Prop
 | nil (k : Nat) : StepsG P ops Q F Ψ [] k
 | cons {o : Oper} {os : List Oper} {k : Nat} (h : StepG P ops Q F Ψ k o) (hs : StepsG P ops Q F Ψ os (k + 1)) : StepsG P ops Q F Ψ (o :: os) k
theorem stepsG_of {ops : Array Oper} {F : (Nat → Value) → Act} {Ψ : (Nat → Bool) → (Nat → Value) → World → Prop} : ∀ (os : List Oper) (k : Nat), StepsG P ops Q F Ψ os k → ∀ i o, os[i]? = some o → StepG P ops Q F Ψ (k + i) o
 | [], _, _, _, _, h => by simp at h
 | p :: os, k, hs, 0, o, h => by
  simp only [List.getElem?_cons_zero, Option.some.injEq] at h
  subst h
  cases hs with
  | cons h _ => exact h
 | p :: os, k, hs, i + 1, o, h => by
  cases hs with
  | cons _ hs =>
   have := stepsG_of os (k + 1) hs i o (by simpa using h)
   rwa [show k + 1 + i = k + (i + 1) by omega] at this
theorem wp_region_stepsG {os : List Oper} {id : Nat} {a0 : Act} {w : World} (hm : P.follows .mixedOrders = true) (hd : dstsOkL os = true) (he : edgesOk os.toArray = true)
 {F : (Nat → Value) → Act} (hF : ∀ v, frL a0 os 0 v = F v)
 (Ψ : (Nat → Bool) → (Nat → Value) → World → Prop) (h0 : ∀ v, (∀ i, v i = ((os[i]?.bind (·.dst)).map fun t => a0.tmps.getD t undef).getD undef) → Ψ (fun _ => false) v w.drew)
 (hstep : StepsG P os.toArray Q F Ψ os 0)
 (hend : ∀ L v w, (∀ i, i < os.length → L i = true) → Ψ L v w → Q .normal (F v) w) : (Code.region id os.toArray true).wp P Q a0 w := by
 refine wp_region_psi0 hm (by simpa using hd) he Ψ (fun v hv => h0 v (by simpa using hv)) (fun i o ho => ?_) (fun L v w hL hΨ => ?_)
 · have hs := stepsG_of _ _ hstep i o (by simpa using ho)
   rw [Nat.zero_add] at hs
   intro L v w h1 h2 h3 K hK
   have hf : fr a0 os.toArray v = F v := hF v
   rw [hf] at hK ⊢
   exact hs L v w h1 h2 h3 K hK
 · have hf : fr a0 os.toArray v = F v := hF v
   rw [hf]
   exact hend L v w (by simpa using hL) hΨ
end
end Go.Proofs.Ytobcdekochenfaa
namespace Go.Proofs.Ytobcdekochenfaa
open Go Go.RowKit
set_option linter.unusedVariables false
set_option linter.unusedSimpArgs false
attribute [local irreducible] deg invN dS qS stp stpr quoP resP oneP ofN dvo pmP run bzD bzU bzW subP lowf monL monUp monB
def FV (p : Nat) (n0 : Nat) (x : Nat × Nat) (l : List (Nat × Nat)) (y : Value) (w : World) : Prop := SlL w n0 149 65 y (facRows p (x :: l))
theorem FV.below {p n0 : Nat} {x : Nat × Nat} {l : List (Nat × Nat)} {y : Value} {w w' : World} (h : FV p n0 x l y w) (hb : Below w.heap.size w w') : FV p n0 x l y w' := SlL.below h hb h.lt
end Go.Proofs.Ytobcdekochenfaa
end
section
namespace Go.Proofs.Ytobcdekochenfaa
open Go.RowKit
set_option linter.unusedVariables false
attribute [local irreducible] deg invN quoP resP
def spN (p x : Nat) (a : Nat → Nat) : List (Nat × Nat) := if 0 < (dvo p (ofN p x) 64 a).1 then [(x, (dvo p (ofN p x) 64 a).1)] else []
theorem spI_stay {p n : Nat} {a : Nat → Nat} (h : ¬ 2 * (n : Int) ≤ deg a) : ∀ ms, spI p n ms a = ([], a)
 | [] => rfl
 | N :: ms => by rw [spI, if_neg h]
theorem spI_snoc {p n x : Nat} : ∀ (pre : List Nat) (a : Nat → Nat), spI p n (pre ++ [x]) a =
 if 2 * (n : Int) ≤ deg (spI p n pre a).2 then ((spI p n pre a).1 ++ spN p x (spI p n pre a).2, (dvo p (ofN p x) 64 (spI p n pre a).2).2) else spI p n pre a
 | [], a => by
  have e : spI p n ([] : List Nat) a = ([], a) := rfl
  rw [List.nil_append, e]
  show spI p n [x] a = if 2 * (n : Int) ≤ deg a then ([] ++ spN p x a, (dvo p (ofN p x) 64 a).2) else ([], a)
  by_cases h : 2 * (n : Int) ≤ deg a
  · rw [if_pos h, spI, if_pos h]
    show (spN p x a ++ [], (dvo p (ofN p x) 64 a).2) = _
    rw [List.append_nil, List.nil_append]
  · rw [if_neg h, spI_stay h]
 | N :: pre, a => by
  rw [List.cons_append]
  by_cases h : 2 * (n : Int) ≤ deg a
  · rw [spI, if_pos h, spI_snoc pre, spI, if_pos h]
    by_cases h3 : 2 * (n : Int) ≤ deg (spI p n pre (dvo p (ofN p N) 64 a).2).2
    · rw [if_pos h3, if_pos h3, List.append_assoc]
    · rw [if_neg h3, if_neg h3]
  · rw [spI_stay h, spI_stay h, if_neg h]
theorem spI_more {p n : Nat} {a : Nat → Nat} : ∀ (pre ms : List Nat), ¬ 2 * (n : Int) ≤ deg (spI p n pre a).2 → spI p n (pre ++ ms) a = spI p n pre a
 | pre, [], _ => by rw [List.append_nil]
 | pre, x :: ms, h => by
  have e : spI p n (pre ++ [x]) a = spI p n pre a := by rw [spI_snoc, if_neg h]
  rw [show pre ++ x :: ms = (pre ++ [x]) ++ ms by simp, spI_more (pre ++ [x]) ms (by rw [e]; exact h), e]
theorem spO_step {p f n : Nat} {a : Nat → Nat} (h : 2 * (n : Int) ≤ deg a) : spO p (f + 1) n a = ((spI p n (monL p n) a).1 ++ (spO p f (n + 1) (spI p n (monL p n) a).2).1, (spO p f (n + 1) (spI p n (monL p n) a).2).2) := by rw [spO, if_pos h]
theorem spO_stop {p f n : Nat} {a : Nat → Nat} (h : ¬ 2 * (n : Int) ≤ deg a) : spO p f n a = ([], a) := by
 cases f with
 | zero => rfl
 | succ f => rw [spO, if_neg h]
/-- what was told does not divide what is left -/
theorem spO_left {p : Nat} (hp : p = 2 ∨ p = 3 ∨ p = 5 ∨ p = 7) : ∀ (f n : Nat) (a : Nat → Nat), 1 ≤ n → (∀ k, k < 64 → a k < p) → 0 ≤ deg a → lowf p n a →
 (∀ k, k < 64 → (spO p f n a).2 k < p) ∧ 0 ≤ deg (spO p f n a).2 ∧ dv p (lz (spO p f n a).2) (lz a) ∧ ∀ x, x ∈ (spO p f n a).1 → ¬ dv p (lz (ofN p x.1)) (lz (spO p f n a).2)
 | 0, n, a, _, ha, h0, _ => ⟨ha, h0, dv_self _, fun x hx => by cases hx⟩
 | f + 1, n, a, hn, ha, h0, hl => by
  by_cases h : 2 * (n : Int) ≤ deg a
  · have hn2 : n < 64 := by have := zdb a; omega
    have hI := spI_left hp hn hn2 (monL p n) a (fun _ h => h) ha h0 hl
    obtain ⟨s1, s2, s3, s4⟩ := hI
    rw [spO_step h]
    by_cases hc : 2 * (n : Int) ≤ deg (spI p n (monL p n) a).2
    · have hfull := spI_full hp (monL p n) a hc
      obtain ⟨r1, r2, r3, r4, r5⟩ := foR_spec hp hn hn2 (monL p n) a (fun _ h => h) ha h0 hl
      obtain ⟨t1, t2, t3, t4⟩ := spO_left hp f (n + 1) (spI p n (monL p n) a).2 (by omega) s1 s2 (by rw [hfull]; exact lowf_next (by omega) hl r4 r5)
      refine ⟨t1, t2, dv_trans t3 s3, fun x hx hd => ?_⟩
      rcases List.mem_append.1 hx with h1 | h1
      · exact (s4 x h1).2.2.2 (dv_trans hd t3)
      · exact t4 x h1 hd
    · rw [spO_stop (f := f) (n := n + 1) (by push_cast; omega)]
      refine ⟨s1, s2, s3, fun x hx hd => ?_⟩
      rw [List.append_nil] at hx
      exact (s4 x hx).2.2.2 hd
  · rw [spO_stop h]
    exact ⟨ha, h0, dv_self _, fun x hx => by cases hx⟩
end Go.Proofs.Ytobcdekochenfaa
namespace Go.Proofs.Ytobcdekochenfaa
open Go Go.RowKit
set_option linter.unusedVariables false
set_option linter.unusedSimpArgs false
attribute [local irreducible] deg invN dS qS stp stpr quoP resP oneP ofN dvo spI spO spN run lowf monL finL facRows
theorem facRows_app (p : Nat) (L M : List (Nat × Nat)) : facRows p (L ++ M) = facRows p L ++ facRows p M := by unfold facRows; exact List.map_append
theorem finL_rows {p : Nat} {X : Nat → Nat} (hp : p = 2 ∨ p = 3 ∨ p = 5 ∨ p = 7) (hX : ∀ k, k < 64 → X k < p) (h0 : 0 < deg X) : facRows p (finL p X) = [facC (monP p X) 1] := by
 obtain ⟨D, hD⟩ : ∃ D : Nat, deg X = (D : Int) := ⟨(deg X).toNat, by omega⟩
 obtain ⟨m1, m2, _, _⟩ := made_mon hp hX hD
 unfold finL facRows
 rw [if_pos h0, hD, Int.toNat_natCast]
 obtain ⟨q, hq⟩ : ∃ q, q = monP p X := ⟨_, rfl⟩
 have e : sclP p X (invN p (X D)) = q := by rw [hq]; unfold monP; rw [hD, Int.toNat_natCast]
 rw [e] at m1 m2
 rw [← hq]
 obtain ⟨_, h2⟩ := mon_num (by omega) m2 m1
 show [facC (ofN p (vl p q (D + 1))) 1] = [facC q 1]
 unfold facC bl
 rw [List.map_congr_left (fun k hk => by rw [h2 k (by simpa using hk)])]
theorem left_ne {p N : Nat} {X : Nat → Nat} (hp : p = 2 ∨ p = 3 ∨ p = 5 ∨ p = 7) (hX : ∀ k, k < 64 → X k < p) (h0 : 0 ≤ deg X) (h : ¬ dv p (lz (ofN p N)) (lz X)) : eqN 64 (ofN p N) (monP p X) = false := by
 cases he : eqN 64 (ofN p N) (monP p X) with
 | false => rfl
 | true =>
  exfalso; apply h
  obtain ⟨D, hD⟩ : ∃ D : Nat, deg X = (D : Int) := ⟨(deg X).toNat, by omega⟩
  obtain ⟨_, _, _, m4⟩ := made_mon hp hX hD
  rw [lz_congr (eqN_iff.1 he)]
  unfold monP
  rw [hD, Int.toNat_natCast]
  exact (m4 _).2 (dv_self _)
theorem slL_empty (w : World) (e : TypeId) (size : Nat) {base : Nat} (h : base ≤ w.heap.size) : SlL (w.alloc (.cells #[] e)) base e size (.slice (some ⟨w.heap.size, 0, none⟩) 0 0) [] := by
 delta SlL
 refine ⟨?_, ?_, ?_⟩
 · simp; omega
 · intro c hc; cases hc
 · exact ⟨by simp, .inr ⟨w.heap.size, 0, #[], rfl, h, heap_alloc_last w _, Nat.le_refl _, Nat.zero_le _, by simp, by simp⟩⟩
theorem built_fac2 (f : Nat → Nat) (k : Nat) : Try.prog.built 149 [(0, .agg (zb 64 f)), (1, .int .i64 (k : Int))] = some (facC f k).toArray := by unfold facC zb bl; kernel_rfl
set_option maxRecDepth 100000 in
set_option maxHeartbeats 12800000 in
theorem l01Count_any (p n : Nat) (w : World) (hp1 : 2 ≤ p) (hp2 : p ≤ 7) (hn : n ≤ 12) :
 Calls Try.prog 75 #[.int .i64 (p : Int), .int .i64 (n : Int)] w fun e w' => e = .returned (.int .i64 ((p ^ n : Nat) : Int)) ∧ w = w' := by
 go_enter Try.func75, Try.ntmps75
 go_wp2_with fail
 go_loopw [5, 1] (fun x i wr => ∃ k j X : Nat, k + j = n ∧ X = p ^ k ∧ x = .int .i64 (X : Int) ∧ i = .int .i64 (j : Int) ∧ wr = w) (fun _ i _ => (intOf i).toNat)
 case atStart => exact ⟨0, n, 1, by omega, rfl, rfl, rfl, rfl⟩
 case round =>
  obtain ⟨k, j, X, hk, hX, rfl, rfl, rfl⟩ := hrel
  have hb := mon_bound hp2 (by omega : k ≤ 12)
  rw [← hX] at hb
  have hX12 : (X : Int) ≤ 1000000000000 := by omega
  have HK := Lib.hid hk
  have hj20 : j ≤ 20 := by omega
  clear hk
  by_cases hlt : 0 < j
  · have hm : ((X * p : Nat) : Int) ≤ 13841287201 * 7 := by
     have : X * p ≤ 13841287201 * 7 := Nat.mul_le_mul hb hp2
     omega
    have hm2 : 0 ≤ ((X * p : Nat) : Int) := by omega
    rw [Int.natCast_mul] at hm hm2
    have HX := Lib.hid hX; clear hX
    go_wp2_with fail
    go_roundw
    case rel => exact ⟨k + 1, j - 1, X * p, by have := HK.out; omega, by rw [Nat.pow_succ, ← HX.out], by go_num, by rw [show ((j - 1 : Nat) : Int) = (j : Int) - 1 by omega], trivial⟩
    case measure => simp [intOf]; omega
  · have e : j = 0 := by omega
    subst e
    have e2 : k = n := by have := HK.out; omega
    have hmn : ((X : Int) < 1000000000001) := by omega
    have HX := Lib.hid hX
    have HK2 := Lib.hid e2
    clear hX e2
    go_wp2_with fail
    go_ret
    exact ⟨ret_int (congrArg (fun x : Nat => (x : Int)) (by rw [HX.out, HK2.out])), rfl⟩
set_option maxRecDepth 100000 in
set_option maxHeartbeats 12800000 in
theorem l02Split_any (p : Nat) (f : Nat → Nat) (w : World) (hpr : p = 2 ∨ p = 3 ∨ p = 5 ∨ p = 7) (lf : ∀ k, k < 64 → f k < p) (h0 : 0 ≤ deg f) (h12 : deg f ≤ 12) :
 Calls Try.prog 144 #[.int .i64 (p : Int), .agg (zb 64 f)] w (FaF p f w) := by
 have p2 : 2 ≤ p := by omega
 have p7 : p ≤ 7 := by omega
 have p0 : 0 < p := by omega
 have HLF := Lib.hid lf
 have HEND := Lib.hid (spO_eq hpr 64 1 f (by omega) (by omega) lf h0 (lowf_one f))
 have HLEFT := Lib.hid (spO_left hpr 64 1 f (by omega) lf h0 (lowf_one f))
 clear lf
 go_enter Try.func144, Try.ntmps144
 go_upto_region 1 with (fail)
 obtain ⟨W1, hwo⟩ : ∃ v : World, v = (w.alloc (.cells (zb 64 (f)) 23)) := ⟨_, rfl⟩
 have B0 : Blk W1 (w.heap.size) 64 23 (f) := by subst hwo; have := (Blk.new w 64 23 (f)); simpa using this
 have hb : Below w.heap.size w W1 := by subst hwo; exact ((Below.refl _ _).alloc (Nat.le_refl _) _)
 rw [← hwo]
 clear hwo
 go_upto_block 0 with (fail)
 obtain ⟨base, hbase0⟩ : ∃ n, n = W1.heap.size := ⟨_, rfl⟩
 have yb_0 : (w.heap.size) < base := by rw [hbase0]; exact B0.lt
 have ybw : w.heap.size ≤ base := by rw [hbase0]; exact hb.size
 have hS0 : SlL (W1.alloc (.cells #[] 149)) base 149 65 (.slice (some ⟨W1.heap.size, 0, none⟩) 0 0) (facRows p []) := by unfold facRows; exact slL_empty W1 149 65 (Nat.le_of_eq hbase0)
 have hb1 : Below w.heap.size w (W1.alloc (.cells #[] 149)) := hb.alloc hb.size _
 have qB0 : Blk (W1.alloc (.cells #[] 149)) (w.heap.size) 64 23 f := B0.alloc _
 clear hbase0 hb B0
 go_wp2_with fail
 go_loopw [5, 6] (fun s5 i wr => ∃ (fu n : Nat) (X : Nat → Nat) (LL : List (Nat × Nat)) (lst : Value), lst = s5 ∧ n + fu = 64 ∧ i = .int .i64 ((n : Int) + 1) ∧ Hid (spO p 64 1 f = (LL ++ (spO p fu (n + 1) X).1, (spO p fu (n + 1) X).2)) ∧ Hid (∀ k, k < 64 → X k < p) ∧ 0 ≤ deg X ∧ deg X ≤ 12 ∧ LL.length ≤ n * 13841287202 ∧ Below w.heap.size w wr ∧ Blk wr (w.heap.size) 64 23 X ∧ SlL wr base 149 65 lst (facRows p LL)) (fun _ i _ => 80 - (intOf i).toNat)
 case atStart => exact ⟨64, 0, f, [], _, rfl, rfl, rfl, Lib.hid rfl, HLF, h0, h12, by simp, hb1, qB0, hS0⟩
 case round =>
  clear hb1 hS0 qB0
  obtain ⟨fu, n, X, LL, lst, rfl, hfu, rfl, hE, hX, hX0, hX12, hLL, hb, B0, hS⟩ := hrel
  have HFU := Lib.hid hfu
  clear hfu
  by_cases hd : 2 * ((n : Int) + 1) ≤ deg X
  · obtain ⟨fu, rfl⟩ : ∃ t, fu = t + 1 := ⟨fu - 1, by have := HFU.out; omega⟩
    have hn5 : n ≤ 5 := by omega
    obtain ⟨q, hq⟩ : ∃ q, q = p ^ (n + 1) := ⟨_, rfl⟩
    have hqb : q ≤ 13841287201 := by rw [hq]; exact mon_bound p7 (by omega)
    have HCQ := Lib.hid (show ∀ W, Calls Try.prog 75 #[.int .i64 (p : Int), .int .i64 ((n + 1 : Nat) : Int)] W fun e w' => e = .returned (.int .i64 (q : Int)) ∧ W = w' by rw [hq]; exact fun W => l01Count_any p (n + 1) W p2 p7 (by omega))
    have HQ := Lib.hid hq
    clear hq
    have HSS := Lib.hid (spO_step (p := p) (f := fu) (n := n + 1) (a := X) (by push_cast; omega))
    have B1 := hS.top
    have B2 : SzG wr.heap.size wr := Nat.le_refl _
    clear hS
    go_upto_region 5 with (first | (refine zla (.tmp 3) B0 Try.underlying23 Try.size23 ?_) | (go_at_call 74; refine (l01Deg_any X _).mono ?_; rintro e W2 ⟨rfl, hW2⟩; replace B0 := B0.zw hW2; replace B1 := B1.zw hW2; replace B2 := B2.zw hW2; replace hb := (hb).trans (hW2.mono (hb).size)))
    go_upto_region 99 with (first | (go_at_call 75; refine (HCQ.out _).mono ?_; rintro e wS ⟨rfl, rfl⟩))
    go_loopw [5, 7] (fun s5 i wr => ∃ (j : Nat) (Y : Nat → Nat) (LJ : List (Nat × Nat)) (lst2 : Value), lst2 = s5 ∧ j ≤ q ∧ i = .int .i64 ((q : Int) + (j : Int)) ∧ Hid (spI p (n + 1) (List.range' q j) X = (LJ, Y)) ∧ LJ.length ≤ j ∧ Hid (∀ k, k < 64 → Y k < p) ∧ 0 ≤ deg Y ∧ deg Y ≤ 12 ∧ Below w.heap.size w wr ∧ Blk wr (w.heap.size) 64 23 Y ∧ SlL wr base 149 65 lst2 (facRows p (LL ++ LJ))) (fun _ i _ => q + q + 1 - (intOf i).toNat)
    case atStart => exact ⟨0, X, [], lst, rfl, Nat.zero_le _, by simp, Lib.hid (by unfold spI; rfl), Nat.zero_le _, hX, hX0, hX12, hb, B0, (by rw [List.append_nil]; exact B1.1)⟩
    case round =>
     clear hb B0 B1 B2
     obtain ⟨j, Y, LJ, lst2, rfl, hjq, rfl, hSI, hLJ, hY, hY0, hY12, hb, B0, hS⟩ := hrel
     by_cases hj : j < q
     · have hcj : (q : Int) + (j : Int) < 2 * (q : Int) := by omega
       by_cases hdY : 2 * ((n : Int) + 1) ≤ deg Y
       · have hmem : q + j ∈ monL p (n + 1) := by rw [monL_mem, ← HQ.out]; omega
         have hmx := mon_ofN p2 (by omega : n + 1 < 64) hmem
         obtain ⟨x, hxq⟩ : ∃ x, x = q + j := ⟨_, rfl⟩
         rw [← hxq] at hmx
         have hxb : (x : Int) ≤ 1000000000000 := by omega
         have HOF := Lib.hid (show ∀ W, Calls Try.prog 77 #[.int .i64 (p : Int), .int .i64 ((q + j : Nat) : Int)] W fun e w' => e = .returned (.agg (zb 64 (ofN p x))) ∧ Below W.heap.size W w' by rw [← hxq]; exact fun W => l01Of_any p x W p2 p7 hxb)
         have HSN := Lib.hid (show spI p (n + 1) (List.range' q (j + 1)) X = (LJ ++ spN p x Y, (dvo p (ofN p x) 64 Y).2) by rw [range_snoc, ← hxq, spI_snoc, hSI.out, if_pos (by push_cast; exact hdY)])
         obtain ⟨d1, d2, d3, d4⟩ := dvo_ok (m := ofN p x) hpr (fun k _ => ofN_lt p0 x k) hmx 64 Y hY.out hY0
         have HD1 := Lib.hid d1
         have HMX := Lib.hid hmx
         have hdx : deg (ofN p x) = ((n : Int) + 1) := by rw [hmx.1]; push_cast; rfl
         have HDX := Lib.hid hdx
         clear hmem d1 hmx hSI hxq hdx hxb
         have B3 := hS.top
         have B4 : SzG wr.heap.size wr := Nat.le_refl _
         clear hS
         go_upto_region 8 with (first | (go_at_call 75; refine (HCQ.out _).mono ?_; rintro e wS ⟨rfl, rfl⟩) | (refine zlg rfl 23 (.tmp 3) rfl _ rfl 64 23 _ (B0) _ Try.underlying23 rfl Try.size23 ?_) | (go_at_call 74; refine (l01Deg_any Y _).mono ?_; rintro e W3 ⟨rfl, hW3⟩; replace B0 := B0.zw hW3; replace B3 := B3.zw hW3; replace B4 := B4.zw hW3; replace hb := (hb).trans (hW3.mono (hb).size)))
         have lt_B0 := B0.lt
         have lt_B3 := B3.lt
         have lt_B4 := B4.lt
         go_upto_region 99 with (first | rw [← z64] | (go_at_call 77; refine (HOF.out _).mono ?_; rintro e W4 ⟨rfl, hW4⟩; replace B0 := B0.zw hW4; replace B3 := B3.zw hW4; replace B4 := B4.zw hW4; replace hb := (hb).trans (hW4.mono (hb).size)) | (refine wpList_store_blk rfl 23 (.tmp 8) (.tmp 43) rfl _ 64 (ofN p x) rfl rfl 23 _ ((Blk.new W4 64 23 (fun _ => 0))) Try.size23 ?_; try simp only [Act.put]; go_upto_region 99 with (fail)))
         have lt_B0 := B0.lt
         have lt_B3 := B3.lt
         have lt_B4 := B4.lt
         have lhb := hb.size
         obtain ⟨W5, hwo, hzQ⟩ : ∃ v : World, v = ((W4.alloc (.cells (zb 64 fun _ => 0) 23)).setRow (W4.heap.size) (zb 64 (ofN p x))) ∧ Blk v (w.heap.size) 64 23 (Y) ∧ SlT v base wr.heap.size 149 65 lst2 (facRows p (LL ++ LJ)) ∧ SzG wr.heap.size v ∧ Blk v (W4.heap.size) 64 23 (ofN p x) ∧ Below w.heap.size w v := ⟨_, rfl, ((B0.alloc (.cells (zb 64 fun _ => 0) 23)).rowOther (by omega)), ((B3.alloc (.cells (zb 64 fun _ => 0) 23)).rowOther (by omega)), ((B4.alloc (.cells (zb 64 fun _ => 0) 23)).rowOther (by omega)), ((Blk.new W4 64 23 (fun _ => 0)).row (ofN p x)), (zr (hb.alloc (by have := hb.size; simp; omega) (.cells (zb 64 fun _ => 0) 23)) (by omega) _)⟩
         rw [← hwo]
         clear hwo B0 B3 B4 hb
         obtain ⟨B0, B3, B4, B5, hb⟩ := hzQ
         obtain ⟨N1, hNN⟩ : ∃ n : Nat, n = W4.heap.size := ⟨_, rfl⟩
         rw [← hNN] at lt_B0 lt_B3 lt_B4 lhb B5 ⊢
         clear hNN
         have zN1_0 := lt_B0
         have zN1_3 := lt_B3
         have zN1_4 := lt_B4
         have zN1 := lhb
         clear lt_B0 lt_B3 lt_B4 lhb
         try simp only [Act.put, pA, pB, pC]
         clear HOF
         go_wp2_with fail
         go_loopw [9] (fun i wr => ∃ (fu2 i0 : Nat) (Z : Nat → Nat), i0 + fu2 = 64 ∧ i = .int .i64 (i0 : Int) ∧ Hid (dvo p (ofN p x) 64 Y = ((dvo p (ofN p x) fu2 Z).1 + i0, (dvo p (ofN p x) fu2 Z).2)) ∧ Hid (∀ k, k < 64 → Z k < p) ∧ 0 ≤ deg Z ∧ deg Z < (fu2 : Int) ∧ Below w.heap.size w wr ∧ Blk wr (w.heap.size) 64 23 Z ∧ Blk wr (N1) 64 23 (ofN p x) ∧ SlL wr base 149 65 lst2 (facRows p (LL ++ LJ)) ∧ W5.heap.size ≤ wr.heap.size) (fun i _ => 65 - (intOf i).toNat)
         case atStart => exact ⟨64, 0, Y, rfl, rfl, Lib.hid rfl, hY, hY0, by omega, hb, B0, B5, B3.1, Nat.le_refl _⟩
         case round =>
          clear hb B0 B3 B4 B5
          obtain ⟨fu2, i0, Z, hfu2, rfl, hDE, hZ, hZ0, hZf, hb, B0, B5, hS, hszW⟩ := hrel
          obtain ⟨fu2, rfl⟩ : ∃ t, fu2 = t + 1 := ⟨fu2 - 1, by omega⟩
          have HDV := Lib.hid (fun W => l01Divide_any p Z (ofN p x) W hpr hZ.out (fun k _ => ofN_lt p0 x k) (by rw [HDX.out]; omega))
          have i64 : i0 ≤ 63 := by omega
          have HF2 := Lib.hid hfu2
          clear hfu2
          have B6 := hS.top
          have B7 : SzG wr.heap.size wr := Nat.le_refl _
          clear hS
          by_cases hge : (n : Int) + 1 ≤ deg Z
          · 
            go_upto_region 10 with (first | (refine zla (.tmp 3) B0 Try.underlying23 Try.size23 ?_) | (go_at_call 74; refine (l01Deg_any Z _).mono ?_; rintro e W6 ⟨rfl, hW6⟩; replace B0 := B0.zw hW6; replace B5 := B5.zw hW6; replace B6 := B6.zw hW6; replace B7 := B7.zw hW6; replace hb := (hb).trans (hW6.mono (hb).size)))
            have lt_B0 := B0.lt
            have lt_B5 := B5.lt
            have lt_B6 := B6.lt
            have lt_B7 := B7.lt
            go_upto_region 11 with (first | rw [← z64] | (refine zla (.tmp 3) B0 Try.underlying23 Try.size23 ?_) | (refine zla (.tmp 8) B5 Try.underlying23 Try.size23 ?_) | (go_at_call 173; refine (HDV.out _).mono ?_; rintro e W7 ⟨rfl, hW7⟩; replace B0 := B0.zw hW7; replace B5 := B5.zw hW7; replace B6 := B6.zw hW7; replace B7 := B7.zw hW7; replace hb := (hb).trans (hW7.mono (hb).size)) | (refine wpList_store_blk rfl 23 (.tmp 10) (.tmp 53) rfl _ 64 (quoP p Z (ofN p x)) rfl rfl 23 _ (((Blk.new W7 64 23 (fun _ => 0)).alloc (.cells (zb 64 fun _ => 0) 23))) Try.size23 ?_; try simp only [Act.put]) | (refine wpList_store_blk rfl 23 (.tmp 11) (.tmp 54) rfl _ 64 (resP p Z (ofN p x)) rfl rfl 23 _ (((show Blk ((W7.alloc (.cells (zb 64 fun _ => 0) 23)).alloc (.cells (zb 64 fun _ => 0) 23)) (W7.heap.size + 1) 64 23 (fun _ => 0) by have := Blk.new (W7.alloc (.cells (zb 64 fun _ => 0) 23)) 64 23 (fun _ => 0); simpa using this).rowOther (by omega))) Try.size23 ?_; try simp only [Act.put]))
            have lt_B0 := B0.lt
            have lt_B5 := B5.lt
            have lt_B6 := B6.lt
            have lt_B7 := B7.lt
            have lhb := hb.size
            obtain ⟨W8, hwo, hzQ⟩ : ∃ v : World, v = ((((W7.alloc (.cells (zb 64 fun _ => 0) 23)).alloc (.cells (zb 64 fun _ => 0) 23)).setRow (W7.heap.size) (zb 64 (quoP p Z (ofN p x)))).setRow (W7.heap.size + 1) (zb 64 (resP p Z (ofN p x)))) ∧ Blk v (w.heap.size) 64 23 (Z) ∧ Blk v (N1) 64 23 (ofN p x) ∧ SlT v base wr.heap.size 149 65 lst2 (facRows p (LL ++ LJ)) ∧ SzG wr.heap.size v ∧ Blk v (W7.heap.size) 64 23 (quoP p Z (ofN p x)) ∧ Blk v (W7.heap.size + 1) 64 23 (resP p Z (ofN p x)) ∧ Below w.heap.size w v := ⟨_, rfl, ((((B0.alloc (.cells (zb 64 fun _ => 0) 23)).alloc (.cells (zb 64 fun _ => 0) 23)).rowOther (by omega)).rowOther (by omega)), ((((B5.alloc (.cells (zb 64 fun _ => 0) 23)).alloc (.cells (zb 64 fun _ => 0) 23)).rowOther (by omega)).rowOther (by omega)), ((((B6.alloc (.cells (zb 64 fun _ => 0) 23)).alloc (.cells (zb 64 fun _ => 0) 23)).rowOther (by omega)).rowOther (by omega)), ((((B7.alloc (.cells (zb 64 fun _ => 0) 23)).alloc (.cells (zb 64 fun _ => 0) 23)).rowOther (by omega)).rowOther (by omega)), ((((Blk.new W7 64 23 (fun _ => 0)).alloc (.cells (zb 64 fun _ => 0) 23)).row (quoP p Z (ofN p x))).rowOther (by omega)), (((show Blk ((W7.alloc (.cells (zb 64 fun _ => 0) 23)).alloc (.cells (zb 64 fun _ => 0) 23)) (W7.heap.size + 1) 64 23 (fun _ => 0) by have := Blk.new (W7.alloc (.cells (zb 64 fun _ => 0) 23)) 64 23 (fun _ => 0); simpa using this).rowOther (by omega)).row (resP p Z (ofN p x))), (zr (zr ((hb.alloc (by have := hb.size; simp; omega) (.cells (zb 64 fun _ => 0) 23)).alloc (by have := hb.size; simp; omega) (.cells (zb 64 fun _ => 0) 23)) (by omega) _) (by omega) _)⟩
            rw [← hwo]
            clear hwo B0 B5 B6 B7 hb
            obtain ⟨B0, B5, B6, B7, B8, B9, hb⟩ := hzQ
            obtain ⟨N2, hNN⟩ : ∃ n : Nat, n = W7.heap.size := ⟨_, rfl⟩
            rw [← hNN] at lt_B0 lt_B5 lt_B6 lt_B7 lhb B8 B9 ⊢
            clear hNN
            have zN2_0 := lt_B0
            have zN2_5 := lt_B5
            have zN2_6 := lt_B6
            have zN2_7 := lt_B7
            have zN2 := lhb
            clear lt_B0 lt_B5 lt_B6 lt_B7 lhb
            try simp only [Act.put, pA, pB, pC]
            clear HDV
            by_cases hz : deg (resP p Z (ofN p x)) < 0
            · have HV := Lib.hid (show dvo p (ofN p x) 64 Y = ((dvo p (ofN p x) fu2 (quoP p Z (ofN p x))).1 + (i0 + 1), (dvo p (ofN p x) fu2 (quoP p Z (ofN p x))).2) by
               rw [hDE.out, dvo_yes hz]; congr 1; omega)
              obtain ⟨hq0, hqd⟩ := quo_nz hpr hZ.out (fun k _ => ofN_lt p0 x k) HMX.out hZ0 hz
              clear hDE
              have hgd := Try.noGuard23
              have heq := fun W => zeb (P := Try.prog) W 9998 23 5 64 (resP p Z (ofN p x)) (fun _ => 0) Try.underlying23 Try.underlying5 Try.size5
              rw [eqN_zero, show decide (deg (resP p Z (ofN p x)) < 0) = true by simp [hz]] at heq
              simp only [z64] at heq
              go_upto_region 12 with (first | (refine zla (.tmp 11) B9 Try.underlying23 Try.size23 ?_))
              clear heq hgd hz
              have lt_B0 := B0.lt
              have lt_B5 := B5.lt
              have lt_B6 := B6.lt
              have lt_B7 := B7.lt
              have lt_B8 := B8.lt
              have lt_B9 := B9.lt
              go_upto_region 13 with (first | rw [← z64] | (refine zla (.tmp 10) B8 Try.underlying23 Try.size23 ?_) | (refine zsr (.tmp 3) (.tmp 58) (quoP p Z (ofN p x)) B0 Try.size23 ?_; try simp only [Act.put]))
              obtain ⟨W9, hwo, hzQ⟩ : ∃ v : World, v = (W8.setRow (w.heap.size) (zb 64 (quoP p Z (ofN p x)))) ∧ Blk v (w.heap.size) 64 23 (quoP p Z (ofN p x)) ∧ Blk v (N1) 64 23 (ofN p x) ∧ SlT v base wr.heap.size 149 65 lst2 (facRows p (LL ++ LJ)) ∧ SzG wr.heap.size v ∧ Blk v (N2) 64 23 (quoP p Z (ofN p x)) ∧ Blk v (N2 + 1) 64 23 (resP p Z (ofN p x)) ∧ Below w.heap.size w v := ⟨_, rfl, (B0.row (quoP p Z (ofN p x))), (B5.rowOther (by omega)), (B6.rowOther (by omega)), (B7.rowOther (by omega)), (B8.rowOther (by omega)), (B9.rowOther (by omega)), (zr hb (by omega) _)⟩
              rw [← hwo]
              clear hwo B0 B5 B6 B7 B8 B9 hb
              obtain ⟨B0, B5, B6, B7, B8, B9, hb⟩ := hzQ
              try simp only [Act.put, pA, pB, pC]
              go_wp2_with fail
              go_roundw
              case rel => exact ⟨fu2, i0 + 1, quoP p Z (ofN p x), by have := HF2.out; omega, by go_num, HV, Lib.hid (fun k _ => quoP_lt p0 k), hq0, by omega, hb, B0, B5, B6.1, by have := B7.lt; omega⟩
              case measure => simp [intOf] <;> omega
            · have HV := Lib.hid (show dvo p (ofN p x) 64 Y = (i0, Z) by rw [hDE.out, dvo_stop hz]; simp)
              clear hDE
              have hgd := Try.noGuard23
              have heq := fun W => zeb (P := Try.prog) W 9998 23 5 64 (resP p Z (ofN p x)) (fun _ => 0) Try.underlying23 Try.underlying5 Try.size5
              rw [eqN_zero, show decide (deg (resP p Z (ofN p x)) < 0) = false by simp [hz]] at heq
              simp only [z64] at heq
              go_upto_region 14 with (first | (refine zla (.tmp 11) B9 Try.underlying23 Try.size23 ?_))
              clear heq hgd hz
              rw [HV.out] at HSN HD1 d2 d3
              by_cases hi0 : 0 < i0
              · have hi1 : 0 < (i0 : Int) := by omega
                have HSX := Lib.hid (show spI p (n + 1) (List.range' q (j + 1)) X = (LJ ++ [(x, i0)], Z) by rw [HSN.out]; unfold spN; rw [HV.out, if_pos hi0])
                clear hi0 HSN
                go_upto_region 15 with (fail)
                have lu_0 := B0.lt
                have lu_5 := B5.lt
                have lu_6 := B6.lt
                have lu_7 := B7.lt
                have lu_8 := B8.lt
                have lu_9 := B9.lt
                go_wp2_with (first | (refine zla (.tmp 8) B5 Try.underlying23 Try.size23 ?_) | (refine zbo rfl 149 _ rfl (facC (ofN p x) i0).toArray (by rw [Array.toList_map]; exact built_fac2 _ _) ?_) | (refine wpList_build1 rfl 146 _ (facC (ofN p x) i0) 65 rfl 149 Try.underlying146 Try.elemFac (by decide) (by decide) (facC_len _ _) rfl ?_; intro wa hps hba; have eB0 := B0.zw hba; have eB5 := B5.zw hba; have eB6 := B6.zw hba; have eB7 := B7.zw hba; have eB8 := B8.zw hba; have eB9 := B9.zw hba; have ehb := hb.trans (hba.mono hb.size)) | (at_builtin; refine wpList_append_sl _ rfl _ _ 146 rfl base 149 (.agg (facC (fun _ => 0) 0).toArray) 65 72 Try.underlying146 Try.infoFac (by simp [Value.cells, facC_len]) (by decide) lst2 _ rfl eB6.1 W8.heap.size (facC (ofN p x) i0) rfl (facC_len _ _) hps.range (facC_one _ _) (by rw [facRows_len, List.length_append]; unfold maxLen; omega) (by rw [facRows_len, List.length_append]; omega) ?_; intro vp wp hSp hg1; have fB0 := eB0.grownO hg1 (eB6.1.own) (base := base) (by omega); have fhb := ehb.grown hg1 ehb.size (fun k e => Nat.le_trans ybw (eB6.1.own k e))))
                go_roundw
                case rel => exact ⟨j + 1, Z, LJ ++ [(x, i0)], vp, rfl, by omega, by go_num, HSX, by simp; omega, HD1, d2, by have : deg Z ≤ deg Y := d3; omega, fhb, fB0, (by rw [← List.append_assoc, facRows_snoc]; exact hSp)⟩
                case measure => simp [intOf] <;> omega
              · have hi1 : ¬ 0 < (i0 : Int) := by omega
                have HSX := Lib.hid (show spI p (n + 1) (List.range' q (j + 1)) X = (LJ, Z) by rw [HSN.out]; unfold spN; rw [HV.out, if_neg hi0, List.append_nil])
                clear hi0 HSN
                go_wp2_with fail
                go_roundw
                case rel => exact ⟨j + 1, Z, LJ, lst2, rfl, by omega, by go_num, HSX, by omega, HD1, d2, by have : deg Z ≤ deg Y := d3; omega, hb, B0, B6.1⟩
                case measure => simp [intOf] <;> omega
          · have hge2 : deg Z < (n : Int) + 1 := by omega
            have HV := Lib.hid (show dvo p (ofN p x) 64 Y = (i0, Z) by
             rw [hDE.out, dvo_stop (by rw [deg_congr (f := resP p Z (ofN p x)) (g := Z) (fun k hk => resP_small p0 hZ.out (by rw [HDX.out]; omega) k hk)]; omega)]; simp)
            clear hDE hge
            go_upto_region 14 with (first | (refine zla (.tmp 3) B0 Try.underlying23 Try.size23 ?_) | (go_at_call 74; refine (l01Deg_any Z _).mono ?_; rintro e W6 ⟨rfl, hW6⟩; replace B0 := B0.zw hW6; replace B5 := B5.zw hW6; replace B6 := B6.zw hW6; replace B7 := B7.zw hW6; replace hb := (hb).trans (hW6.mono (hb).size)))
            rw [HV.out] at HSN HD1 d2 d3
            by_cases hi0 : 0 < i0
            · have hi1 : 0 < (i0 : Int) := by omega
              have HSX := Lib.hid (show spI p (n + 1) (List.range' q (j + 1)) X = (LJ ++ [(x, i0)], Z) by rw [HSN.out]; unfold spN; rw [HV.out, if_pos hi0])
              clear hi0 HSN
              go_upto_region 15 with (fail)
              have lu_0 := B0.lt
              have lu_5 := B5.lt
              have lu_6 := B6.lt
              have lu_7 := B7.lt
              go_wp2_with (first | (refine zla (.tmp 8) B5 Try.underlying23 Try.size23 ?_) | (refine zbo rfl 149 _ rfl (facC (ofN p x) i0).toArray (by rw [Array.toList_map]; exact built_fac2 _ _) ?_) | (refine wpList_build1 rfl 146 _ (facC (ofN p x) i0) 65 rfl 149 Try.underlying146 Try.elemFac (by decide) (by decide) (facC_len _ _) rfl ?_; intro wa hps hba; have eB0 := B0.zw hba; have eB5 := B5.zw hba; have eB6 := B6.zw hba; have eB7 := B7.zw hba; have ehb := hb.trans (hba.mono hb.size)) | (at_builtin; refine wpList_append_sl _ rfl _ _ 146 rfl base 149 (.agg (facC (fun _ => 0) 0).toArray) 65 72 Try.underlying146 Try.infoFac (by simp [Value.cells, facC_len]) (by decide) lst2 _ rfl eB6.1 W6.heap.size (facC (ofN p x) i0) rfl (facC_len _ _) hps.range (facC_one _ _) (by rw [facRows_len, List.length_append]; unfold maxLen; omega) (by rw [facRows_len, List.length_append]; omega) ?_; intro vp wp hSp hg1; have fB0 := eB0.grownO hg1 (eB6.1.own) (base := base) (by omega); have fhb := ehb.grown hg1 ehb.size (fun k e => Nat.le_trans ybw (eB6.1.own k e))))
              go_roundw
              case rel => exact ⟨j + 1, Z, LJ ++ [(x, i0)], vp, rfl, by omega, by go_num, HSX, by simp; omega, HD1, d2, by have : deg Z ≤ deg Y := d3; omega, fhb, fB0, (by rw [← List.append_assoc, facRows_snoc]; exact hSp)⟩
              case measure => simp [intOf] <;> omega
            · have hi1 : ¬ 0 < (i0 : Int) := by omega
              have HSX := Lib.hid (show spI p (n + 1) (List.range' q (j + 1)) X = (LJ, Z) by rw [HSN.out]; unfold spN; rw [HV.out, if_neg hi0, List.append_nil])
              clear hi0 HSN
              go_wp2_with fail
              go_roundw
              case rel => exact ⟨j + 1, Z, LJ, lst2, rfl, by omega, by go_num, HSX, by omega, HD1, d2, by have : deg Z ≤ deg Y := d3; omega, hb, B0, B6.1⟩
              case measure => simp [intOf] <;> omega
       · 
         have HSF := Lib.hid (show spI p (n + 1) (monL p (n + 1)) X = (LJ, Y) by unfold monL; rw [← HQ.out, show List.range' q q = List.range' q j ++ List.range' (q + j) (q - j) by rw [List.range'_append_1]; congr 1; omega, spI_more _ _ (by rw [hSI.out]; push_cast; exact hdY)]; exact hSI.out)
         have HEN := Lib.hid (show spO p 64 1 f = ((LL ++ LJ) ++ (spO p fu (n + 1 + 1) Y).1, (spO p fu (n + 1 + 1) Y).2) by rw [hE.out, HSS.out, HSF.out, List.append_assoc])
         have hLb : (LL ++ LJ).length ≤ (n + 1) * 13841287202 := by rw [List.length_append]; omega
         clear hSI hE
         have B3 := hS.top
         have B4 : SzG wr.heap.size wr := Nat.le_refl _
         clear hS
         go_upto_region 4 with (first | (go_at_call 75; refine (HCQ.out _).mono ?_; rintro e wS ⟨rfl, rfl⟩) | (refine zlg rfl 23 (.tmp 3) rfl _ rfl 64 23 _ (B0) _ Try.underlying23 rfl Try.size23 ?_) | (go_at_call 74; refine (l01Deg_any Y _).mono ?_; rintro e W3 ⟨rfl, hW3⟩; replace B0 := B0.zw hW3; replace B3 := B3.zw hW3; replace B4 := B4.zw hW3; replace hb := (hb).trans (hW3.mono (hb).size)))
         go_wp2_with fail
         go_roundw
         case rel => exact ⟨fu, n + 1, Y, LL ++ LJ, lst2, rfl, by have := HFU.out; omega, by go_num, HEN, hY, hY0, hY12, hLb, hb, B0, B3.1⟩
         case measure => simp [intOf] <;> omega
     · have hjq2 : j = q := by omega
       have hcj : ¬ (q : Int) + (j : Int) < 2 * (q : Int) := by omega
       clear hj
       have HSF := Lib.hid (show spI p (n + 1) (monL p (n + 1)) X = (LJ, Y) by unfold monL; rw [← HQ.out]; have := hSI.out; rw [hjq2] at this; exact this)
       have HEN := Lib.hid (show spO p 64 1 f = ((LL ++ LJ) ++ (spO p fu (n + 1 + 1) Y).1, (spO p fu (n + 1 + 1) Y).2) by rw [hE.out, HSS.out, HSF.out, List.append_assoc])
       have hLb : (LL ++ LJ).length ≤ (n + 1) * 13841287202 := by rw [List.length_append]; omega
       clear hSI hE
       have B3 := hS.top
       have B4 : SzG wr.heap.size wr := Nat.le_refl _
       clear hS
       go_upto_region 4 with (first | (go_at_call 75; refine (HCQ.out _).mono ?_; rintro e wS ⟨rfl, rfl⟩))
       go_wp2_with fail
       go_roundw
       case rel => exact ⟨fu, n + 1, Y, LL ++ LJ, lst2, rfl, by have := HFU.out; omega, by go_num, HEN, hY, hY0, hY12, hLb, hb, B0, B3.1⟩
       case measure => simp [intOf] <;> omega
  · have HR := Lib.hid (show run p 64 1 f = LL ++ finL p X ∧ ∀ x, x ∈ LL → ¬ dv p (lz (ofN p x.1)) (lz X) by
     obtain ⟨_, _, _, q4⟩ := HLEFT.out
     have e := hE.out
     rw [spO_stop (p := p) (f := fu) (n := n + 1) (a := X) (by push_cast; exact hd), List.append_nil] at e
     rw [HEND.out]
     rw [e] at q4 ⊢
     exact ⟨rfl, q4⟩)
    have hn64 : n ≤ 64 := by have := HFU.out; omega
    clear hE HEND HLEFT HFU HLF
    have B1 := hS.top
    have B2 : SzG wr.heap.size wr := Nat.le_refl _
    clear hS
    go_upto_region 16 with (first | (refine zla (.tmp 3) B0 Try.underlying23 Try.size23 ?_) | (go_at_call 74; refine (l01Deg_any X _).mono ?_; rintro e W2 ⟨rfl, hW2⟩; replace B0 := B0.zw hW2; replace B1 := B1.zw hW2; replace B2 := B2.zw hW2; replace hb := (hb).trans (hW2.mono (hb).size)))
    go_upto_region 17 with (first | (refine zla (.tmp 3) B0 Try.underlying23 Try.size23 ?_) | (go_at_call 74; refine (l01Deg_any X _).mono ?_; rintro e W3 ⟨rfl, hW3⟩; replace B0 := B0.zw hW3; replace B1 := B1.zw hW3; replace B2 := B2.zw hW3; replace hb := (hb).trans (hW3.mono (hb).size)))
    by_cases h0X : 0 < deg X
    · go_upto_region 18 with (fail)
      obtain ⟨D, hD⟩ : ∃ D : Nat, deg X = (D : Int) := ⟨(deg X).toNat, by omega⟩
      obtain ⟨hD6, hXD, _⟩ := deg_top hD
      obtain ⟨c, hc⟩ : ∃ c, c = X D := ⟨_, rfl⟩
      have hcp : c < p := by rw [hc]; exact hX.out D hD6
      rw [← hc] at hXD
      obtain ⟨iv1, iv2, _, _⟩ := invF hpr hXD hcp
      obtain ⟨iv, hiv⟩ : ∃ v, v = invN p c := ⟨_, rfl⟩
      have HN := Lib.hid (fun W => show Calls Try.prog 179 #[.int .i64 (p : Int), .int .u8 (c : Int)] W (fun e w' => e = .returned (.int .u8 (iv : Int)) ∧ Below W.heap.size W w') by rw [hiv]; exact (l01Inverse_any p c W hpr hXD hcp).mono (by rintro e w' ⟨rfl, rfl⟩; exact ⟨rfl, Below.refl _ _⟩))
      rw [← hiv] at iv1 iv2
      have HMP := Lib.hid (show sclP p X iv = monP p X by unfold monP; rw [hD, Int.toNat_natCast, hiv, hc])
      have HA := Lib.hid (show ∀ W, Calls Try.prog 79 #[.int .i64 (p : Int), .agg (zb 64 fun _ => 0), .agg (zb 64 X), .int .i64 (iv : Int)] W fun e w' => e = .returned (.agg (zb 64 (monP p X))) ∧ Below W.heap.size W w' by
       intro W
       have := l01Add_any p (fun _ => 0) X (iv : Int) W p2 p7 (by omega) (by omega) (fun _ _ => p0) hX.out
       rwa [addK_scl, HMP.out] at this)
      have HC := Lib.hid hc
      have HRW := Lib.hid (finL_rows hpr hX.out h0X)
      have HNE := Lib.hid (fun x hx => left_ne hpr hX.out hX0 (HR.out.2 x hx))
      have HX2 := Lib.hid hD
      rw [hD] at h0X hX0 hX12
      have HD2 := Lib.hid hD
      clear hc hiv HMP
      rw [HD2.out]
      clear hD HD2 HX2
      have lt_B0 : (w.heap.size) < W3.heap.size := B0.lt
      have lt_B1 : (base) ≤ W3.heap.size := B1.lt
      have lt_B2 : (wr.heap.size) ≤ W3.heap.size := B2.lt
      have hbase : w.heap.size ≤ W3.heap.size := hb.size
      refine zq Try.mixed (by kernel_rfl) (by kernel_rfl) (fun v => by (simp only [frL, Act.put, pA, pB, pC, Nat.reduceAdd, Nat.zero_add]; exact rfl))
       (fun L v W4 => Below w.heap.size w W4 ∧ W3.heap.size ≤ W4.heap.size ∧ Blk W4 (w.heap.size) 64 23 (X) ∧ SlT W4 base wr.heap.size 149 65 lst (facRows p LL) ∧ SzG wr.heap.size W4 ∧ (L 0 = true → v 0 = (.int .i64 (p : Int))) ∧ (L 1 = true → v 1 = (.agg (zb 64 (fun _ => 0)))) ∧ (L 2 = true → v 2 = (.agg (zb 64 (X)))) ∧ (L 3 = true → v 3 = (.int .i64 (p : Int))) ∧ (L 4 = true → v 4 = (.int .i64 (D : Int))) ∧ (L 5 = true → v 5 = (.pointer (some ⟨w.heap.size, D, none⟩))) ∧ (L 6 = true → v 6 = (.int .u8 (c : Int))) ∧ (L 7 = true → v 7 = (.int .u8 (iv : Int))) ∧ (L 8 = true → v 8 = (.int .i64 (iv : Int))) ∧ (L 9 = true → v 9 = (.agg (zb 64 (monP p X)))) ∧ (L 10 = true → AF (v 10) W4 W3.heap.size 64 23) ∧ (L 11 = true → PF (v 10) W4 W3.heap.size 64 23 (monP p X))) ?_ ?_ ?_
      · intro v hv0
        exact ⟨hb.drew, Nat.le_refl _, B0.drew, B1.drew, B2.drew, (fun h => by cases h), (fun h => by cases h), (fun h => by cases h), (fun h => by cases h), (fun h => by cases h), (fun h => by cases h), (fun h => by cases h), (fun h => by cases h), (fun h => by cases h), (fun h => by cases h), (fun h => by cases h), (fun h => by cases h)⟩
      · refine (.cons rfl ?_ (.cons rfl ?_ (.cons rfl ?_ (.cons rfl ?_ (.cons rfl ?_ (.cons rfl ?_ (.cons rfl ?_ (.cons rfl ?_ (.cons rfl ?_ (.cons rfl ?_ (.cons rfl ?_ (.cons rfl ?_ (.nil _)))))))))))))
        all_goals intro L v W4 hd hn ⟨hB, hz, s0, s1, s2, h0, h1, h2, h3, h4, h5, h6, h7, h8, h9, h10, h11⟩ K hK
        · go_wp2_with fail
          exact hK _ (.int .i64 (p : Int)) _ (by simp only [Act.put, pA, pB, pC ]) ⟨hB, hz, s0, s1, s2, (fun _ => rfl), h1, h2, h3, h4, h5, h6, h7, h8, h9, h10, h11⟩
        · go_wp2_with fail
          rw [← z64]
          exact hK _ (.agg (zb 64 (fun _ => 0))) _ (by simp only [Act.put, pA, pB, pC ]) ⟨hB, hz, s0, s1, s2, h0, (fun _ => rfl), h2, h3, h4, h5, h6, h7, h8, h9, h10, h11⟩
        · refine zlc s0 Try.underlying23 Try.size23 ?_
          exact hK _ _ _ rfl ⟨hB, hz, s0, s1, s2, h0, h1, (fun _ => rfl), h3, h4, h5, h6, h7, h8, h9, h10, h11⟩
        · go_wp2_with fail
          exact hK _ (.int .i64 (p : Int)) _ (by simp only [Act.put, pA, pB, pC ]) ⟨hB, hz, s0, s1, s2, h0, h1, h2, (fun _ => rfl), h4, h5, h6, h7, h8, h9, h10, h11⟩
        · go_wp2_with fail
          exact hK _ (.int .i64 (D : Int)) _ (by simp only [Act.put, pA, pB, pC ]) ⟨hB, hz, s0, s1, s2, h0, h1, h2, h3, (fun _ => rfl), h5, h6, h7, h8, h9, h10, h11⟩
        · have e4 := h4 (zdq hd 4 rfl)
          go_wp2_with fail
          exact hK _ (.pointer (some ⟨w.heap.size, D, none⟩)) _ (by simp only [Act.put, pA, pB, pC, e4]) ⟨hB, hz, s0, s1, s2, h0, h1, h2, h3, h4, (fun _ => rfl), h6, h7, h8, h9, h10, h11⟩
        · have e5 := h5 (zdq hd 5 rfl)
          have cc := s0.cell (i := D) hD6
          rw [← HC.out] at cc
          go_wp2_with fail
          exact hK _ (.int .u8 (c : Int)) _ (by simp only [Act.put, pA, pB, pC, e5]) ⟨hB, hz, s0, s1, s2, h0, h1, h2, h3, h4, h5, (fun _ => rfl), h7, h8, h9, h10, h11⟩
        · have e3 := h3 (zdq hd 3 rfl)
          have e6 := h6 (zdq hd 6 rfl)
          go_wp2_with (go_at_call 179; refine (HN.out _).mono ?_; rintro e wy ⟨rfl, hy⟩)
          exact hK _ (.int .u8 (iv : Int)) _ (by simp only [Act.put, pA, pB, pC, e3, e6]) ⟨hB.trans (hy.mono hB.size), (Nat.le_trans hz hy.size), s0.zw hy, s1.zw hy, s2.zw hy, h0, h1, h2, h3, h4, h5, h6, (fun _ => rfl), h8, h9, (fun h => (h10 h).below hy), (fun h => (h11 h).below hy)⟩
        · have e7 := h7 (zdq hd 7 rfl)
          go_wp2_with fail
          exact hK _ (.int .i64 (iv : Int)) _ (by simp only [Act.put, pA, pB, pC, e7]) ⟨hB, hz, s0, s1, s2, h0, h1, h2, h3, h4, h5, h6, h7, (fun _ => rfl), h9, h10, h11⟩
        · have e0 := h0 (zdq hd 0 rfl)
          have e1 := h1 (zdq hd 1 rfl)
          have e2 := h2 (zdq hd 2 rfl)
          have e8 := h8 (zdq hd 8 rfl)
          go_wp2_with (go_at_call 79; refine (HA.out _).mono ?_; rintro e wy ⟨rfl, hy⟩)
          exact hK _ (.agg (zb 64 (monP p X))) _ (by simp only [Act.put, pA, pB, pC, e0, e1, e2, e8]) ⟨hB.trans (hy.mono hB.size), (Nat.le_trans hz hy.size), s0.zw hy, s1.zw hy, s2.zw hy, h0, h1, h2, h3, h4, h5, h6, h7, h8, (fun _ => rfl), (fun h => (h10 h).below hy), (fun h => (h11 h).below hy)⟩
        · go_wp2_with fail
          rw [← z64]
          exact hK _ (.pointer (some ⟨W4.heap.size, 0, none⟩)) _ (by simp only [Act.put, pA, pB, pC ]) ⟨hB.alloc hB.size _, (by simp; omega), (s0).alloc _, (s1).alloc _, (s2).alloc _, h0, h1, h2, h3, h4, h5, h6, h7, h8, h9, (fun _ => (PF.new W4 64 23 _ hz).af), (fun h => absurd rfl (hn 11 _ rfl h ⟨10, .data⟩ (by simp) rfl))⟩
        · have e9 := h9 (zdq hd 9 rfl)
          obtain ⟨gz, b, ea, hN, hk⟩ := (h10 (zdq hd 10 rfl)).out
          refine zsb 23 _ _ rfl b 64 (monP p X) ea e9 23 gz hk Try.size23 ?_
          exact hK _ undef _ rfl ⟨zr hB (Nat.le_trans hbase hN) _, (by simpa [World.setRow] using hz), (s0).rowOther (by omega), (s1).rowOther (by omega), (s2).rowOther (by omega), h0, h1, h2, h3, h4, h5, h6, h7, h8, h9, (fun h => (h10 h).row hk), (fun _ => by rw [show updV v 11 undef 10 = v 10 from rfl, ea]; exact PF.row hk hN _)⟩
      · intro L v W4 hL ⟨hB, hz, s0, s1, s2, h0, h1, h2, h3, h4, h5, h6, h7, h8, h9, h10, h11⟩
        have e0 := h0 (hL 0 (by decide))
        have e1 := h1 (hL 1 (by decide))
        have e2 := h2 (hL 2 (by decide))
        have e3 := h3 (hL 3 (by decide))
        have e4 := h4 (hL 4 (by decide))
        have e5 := h5 (hL 5 (by decide))
        have e6 := h6 (hL 6 (by decide))
        have e7 := h7 (hL 7 (by decide))
        have e8 := h8 (hL 8 (by decide))
        have e9 := h9 (hL 9 (by decide))
        obtain ⟨k18_10, e10, hNk18_10, hk18_10⟩ := (h11 (hL 11 (by decide))).out
        clear hL h0 h1 h2 h3 h4 h5 h6 h7 h8 h9 h10 h11
        simp only [Exit.then, e0, e1, e2, e3, e4, e5, e6, e7, e8, e9, e10]
        clear e0 e1 e2 e3 e4 e5 e6 e7 e8 e9 e10
        replace B0 := s0
        clear s0
        replace B1 := s1
        clear s1
        replace B2 := s2
        clear s2
        replace hb := hB
        clear hB
        have B3 := hk18_10
        clear hk18_10
        have zk18_10_0 : w.heap.size < k18_10 := by omega
        have zk18_10_1 : base ≤ k18_10 := by omega
        have zk18_10_2 : wr.heap.size ≤ k18_10 := by omega
        clear hbase hz lt_B0 lt_B1 lt_B2
        go_upto_region 19 with (fail)
        clear HN HA HC
        rcases List.eq_nil_or_concat LL with rfl | ⟨LI, x, rfl⟩
        · have hLq : ([] : List (Nat × Nat)).length ≤ n * 13841287202 := hLL
          obtain ⟨a0, cap0, rfl⟩ : ∃ a cap, lst = .slice a 0 cap := by
           rcases B1.1.shape with ⟨h1, _⟩ | ⟨g, cap, h1⟩
           · exact ⟨_, _, h1⟩
           · exact ⟨_, _, by rw [h1]; unfold facRows; rfl⟩
          go_upto_region 20 with (fail)
          refine wp_region_stepsG Try.mixed (by kernel_rfl) (by kernel_rfl) (fun v => by (simp only [frL, Act.put, pA, pB, pC, Nat.reduceAdd, Nat.zero_add]; exact rfl))
           (fun L v wx => Below w.heap.size w wx ∧ Blk wx (k18_10) 64 23 (monP p X) ∧ SlT wx base wr.heap.size 149 65 (.slice a0 0 cap0) (facRows p []) ∧ (L 0 = true → v 0 = (.int .i64 (-1))) ∧ (L 1 = true → v 1 = (.bool false)) ∧ (L 2 = true → v 2 = (.bool false)) ∧ (L 3 = true → v 3 = undef) ∧ (L 4 = true → v 4 = undef) ∧ (L 5 = true → v 5 = undef) ∧ (L 6 = true → v 6 = undef) ∧ (L 7 = true → v 7 = undef) ∧ (L 8 = true → v 8 = undef) ∧ (L 9 = true → v 9 = undef) ∧ (L 10 = true → v 10 = (.bool false))) ?_ ?_ ?_
          · intro v hv0
            exact ⟨hb.drew, B3.drew, B1.drew, (fun h => by cases h), (fun h => by cases h), (fun h => by cases h), (fun h => by cases h), (fun h => by cases h), (fun h => by cases h), (fun h => by cases h), (fun h => by cases h), (fun h => by cases h), (fun h => by cases h), (fun h => by cases h)⟩
          · refine (.cons ?_ (.cons ?_ (.cons ?_ (.cons ?_ (.cons ?_ (.cons ?_ (.cons ?_ (.cons ?_ (.cons ?_ (.cons ?_ (.cons ?_ (.nil _))))))))))))
            · intro L v wx hd hn ⟨hB, s0, s1, h0, h1, h2, h3, h4, h5, h6, h7, h8, h9, h10⟩ K hK
              rw [if_pos (by simp [Region.wanted])]
              go_wp2_with fail
              exact hK _ (.int .i64 (-1)) _ (by simp only [Act.put, pA, pB, pC]) ⟨hB, s0, s1, (fun _ => rfl), h1, h2, h3, h4, h5, h6, h7, h8, h9, h10⟩
            · intro L v wx hd hn ⟨hB, s0, s1, h0, h1, h2, h3, h4, h5, h6, h7, h8, h9, h10⟩ K hK
              have e0 := h0 (zdq hd 0 rfl)
              rw [if_pos (by simp [Region.wanted])]
              go_wp2_with fail
              exact hK _ (.bool false) _ (by simp only [Act.put, pA, pB, pC, e0]) ⟨hB, s0, s1, h0, (fun _ => rfl), h2, h3, h4, h5, h6, h7, h8, h9, h10⟩
            · intro L v wx hd hn ⟨hB, s0, s1, h0, h1, h2, h3, h4, h5, h6, h7, h8, h9, h10⟩ K hK
              have e1 := h1 (zdq hd 1 rfl)
              rw [if_pos (by simp [Region.wanted])]
              go_wp2_with fail
              exact hK _ (.bool false) _ (by simp only [Act.put, pA, pB, pC, e1]) ⟨hB, s0, s1, h0, h1, (fun _ => rfl), h3, h4, h5, h6, h7, h8, h9, h10⟩
            · intro L v wx hd hn ⟨hB, s0, s1, h0, h1, h2, h3, h4, h5, h6, h7, h8, h9, h10⟩ K hK
              have e2 := h2 (zdq hd 2 rfl)
              rw [if_neg (by simp [Region.wanted, yielded, e2])]
              exact hK _ undef _ rfl ⟨hB, s0, s1, h0, h1, h2, (fun _ => rfl), h4, h5, h6, h7, h8, h9, h10⟩
            · intro L v wx hd hn ⟨hB, s0, s1, h0, h1, h2, h3, h4, h5, h6, h7, h8, h9, h10⟩ K hK
              have e2 := h2 (zdq hd 2 rfl)
              rw [if_neg (by simp [Region.wanted, yielded, e2])]
              exact hK _ undef _ rfl ⟨hB, s0, s1, h0, h1, h2, h3, (fun _ => rfl), h5, h6, h7, h8, h9, h10⟩
            · intro L v wx hd hn ⟨hB, s0, s1, h0, h1, h2, h3, h4, h5, h6, h7, h8, h9, h10⟩ K hK
              have e3 := h3 (zdq hd 3 rfl)
              have e4 := h4 (zdq hd 4 rfl)
              have e2 := h2 (zdq hd 2 rfl)
              rw [if_neg (by simp [Region.wanted, yielded, e2])]
              exact hK _ undef _ rfl ⟨hB, s0, s1, h0, h1, h2, h3, h4, (fun _ => rfl), h6, h7, h8, h9, h10⟩
            · intro L v wx hd hn ⟨hB, s0, s1, h0, h1, h2, h3, h4, h5, h6, h7, h8, h9, h10⟩ K hK
              have e5 := h5 (zdq hd 5 rfl)
              have e2 := h2 (zdq hd 2 rfl)
              rw [if_neg (by simp [Region.wanted, yielded, e2])]
              exact hK _ undef _ rfl ⟨hB, s0, s1, h0, h1, h2, h3, h4, h5, (fun _ => rfl), h7, h8, h9, h10⟩
            · intro L v wx hd hn ⟨hB, s0, s1, h0, h1, h2, h3, h4, h5, h6, h7, h8, h9, h10⟩ K hK
              have e6 := h6 (zdq hd 6 rfl)
              have e2 := h2 (zdq hd 2 rfl)
              rw [if_neg (by simp [Region.wanted, yielded, e2])]
              exact hK _ undef _ rfl ⟨hB, s0, s1, h0, h1, h2, h3, h4, h5, h6, (fun _ => rfl), h8, h9, h10⟩
            · intro L v wx hd hn ⟨hB, s0, s1, h0, h1, h2, h3, h4, h5, h6, h7, h8, h9, h10⟩ K hK
              have e2 := h2 (zdq hd 2 rfl)
              rw [if_neg (by simp [Region.wanted, yielded, e2])]
              exact hK _ undef _ rfl ⟨hB, s0, s1, h0, h1, h2, h3, h4, h5, h6, h7, (fun _ => rfl), h9, h10⟩
            · intro L v wx hd hn ⟨hB, s0, s1, h0, h1, h2, h3, h4, h5, h6, h7, h8, h9, h10⟩ K hK
              have e7 := h7 (zdq hd 7 rfl)
              have e8 := h8 (zdq hd 8 rfl)
              have e2 := h2 (zdq hd 2 rfl)
              rw [if_neg (by simp [Region.wanted, yielded, e2])]
              exact hK _ undef _ rfl ⟨hB, s0, s1, h0, h1, h2, h3, h4, h5, h6, h7, h8, (fun _ => rfl), h10⟩
            · intro L v wx hd hn ⟨hB, s0, s1, h0, h1, h2, h3, h4, h5, h6, h7, h8, h9, h10⟩ K hK
              have e2 := h2 (zdq hd 2 rfl)
              rw [if_pos (by simp [Region.wanted])]
              go_wp2_with fail
              exact hK _ (.bool false) _ (by simp only [Act.put, pA, pB, pC, e2]) ⟨hB, s0, s1, h0, h1, h2, h3, h4, h5, h6, h7, h8, h9, (fun _ => rfl)⟩
          · intro L v wx hL ⟨hB, s0, s1, h0, h1, h2, h3, h4, h5, h6, h7, h8, h9, h10⟩
            have e10 := h10 (hL 10 (by decide))
            simp only [Exit.then, e10]
            clear hL hb B0 B1 B2 B3 h0 h1 h2 h3 h4 h5 h6 h7 h8 h9 h10
            have hb := hB
            have B3 := s0
            have B1 := s1
            clear hB s0 s1 e10
            have lu_1 := B1.lt
            have lu_3 := B3.lt
            go_wp2_with (first | (refine zla (.tmp 13) B3 Try.underlying23 Try.size23 ?_) | (refine zbo rfl 149 _ rfl (facC (monP p X) 1).toArray (by rw [Array.toList_map]; exact built_fac2 _ 1) ?_) | (refine wpList_build1 rfl 146 _ (facC (monP p X) 1) 65 rfl 149 Try.underlying146 Try.elemFac (by decide) (by decide) (facC_len _ _) rfl ?_; intro wa hps hba; have eB1 := B1.zw hba; have eB3 := B3.zw hba; have ehb := hb.trans (hba.mono hb.size)) | (at_builtin; refine wpList_append_sl _ rfl _ _ 146 rfl base 149 (.agg (facC (fun _ => 0) 0).toArray) 65 72 Try.underlying146 Try.infoFac (by simp [Value.cells, facC_len]) (by decide) (.slice a0 0 cap0) _ rfl eB1.1 wx.heap.size (facC (monP p X) 1) rfl (facC_len _ _) hps.range (facC_one _ _) (by rw [facRows_len]; unfold maxLen; omega) (by rw [facRows_len]; omega) ?_; intro vp wp hSp hg1; have fhb := ehb.grown hg1 ehb.size (fun k e => Nat.le_trans ybw (eB1.1.own k e))))
            go_ret
            exact ⟨_, rfl, by rw [HR.out.1, facRows_app, HRW.out]; exact hSp.base ybw, fhb⟩
        · rw [List.concat_eq_append] at *
          obtain ⟨g, cap0, rfl⟩ : ∃ g cap, lst = .slice (some ⟨g, 0, none⟩) (LI.length + 1) cap := by
           rcases B1.1.shape with ⟨_, h1⟩ | ⟨g, cap, h1⟩
           · simp [facRows] at h1
           · exact ⟨g, cap, by rw [h1, facRows_len, List.length_append]; rfl⟩
          have hLq : (LI ++ [x]).length ≤ n * 13841287202 := hLL
          rw [List.length_append] at hLL
          have hLI : LI.length + 1 ≤ n * 13841287202 := hLL
          have HNX := Lib.hid (HNE.out x (by simp))
          obtain ⟨J, hJ⟩ : ∃ J, J = LI.length := ⟨_, rfl⟩
          rw [← hJ] at hLI B1 ⊢
          have HJ := Lib.hid hJ
          clear hJ hLL HNE
          go_upto_region 20 with (fail)
          have hgd := Try.noGuard23
          have heq := fun W => zeb (P := Try.prog) W 9998 23 5 64 (ofN p x.1) (monP p X) Try.underlying23 Try.underlying5 Try.size5
          rw [HNX.out] at heq
          refine wp_region_stepsG Try.mixed (by kernel_rfl) (by kernel_rfl) (fun v => by (simp only [frL, Act.put, pA, pB, pC, Nat.reduceAdd, Nat.zero_add]; exact rfl))
           (fun L v wx => Below w.heap.size w wx ∧ Blk wx (k18_10) 64 23 (monP p X) ∧ SlT wx base wr.heap.size 149 65 (.slice (some ⟨g, 0, none⟩) (J + 1) cap0) (facRows p (LI ++ [x])) ∧ (L 0 = true → v 0 = (.int .i64 (J : Int))) ∧ (L 1 = true → v 1 = (.bool true)) ∧ (L 2 = true → v 2 = (.bool true)) ∧ (L 3 = true → v 3 = (.slice (some ⟨g, 0, none⟩) (J + 1) cap0)) ∧ (L 4 = true → v 4 = (.int .i64 (J : Int))) ∧ (L 5 = true → v 5 = (.pointer (some ⟨g, J * 65, none⟩))) ∧ (L 6 = true → v 6 = (.pointer (some ⟨g, J * 65, none⟩))) ∧ (L 7 = true → v 7 = (.agg (zb 64 (ofN p x.1)))) ∧ (L 8 = true → v 8 = (.agg (zb 64 (monP p X)))) ∧ (L 9 = true → v 9 = (.bool false)) ∧ (L 10 = true → v 10 = (.bool false))) ?_ ?_ ?_
          · intro v hv0
            exact ⟨hb.drew, B3.drew, B1.drew, (fun h => by cases h), (fun h => by cases h), (fun h => by cases h), (fun h => by cases h), (fun h => by cases h), (fun h => by cases h), (fun h => by cases h), (fun h => by cases h), (fun h => by cases h), (fun h => by cases h), (fun h => by cases h)⟩
          · refine (.cons ?_ (.cons ?_ (.cons ?_ (.cons ?_ (.cons ?_ (.cons ?_ (.cons ?_ (.cons ?_ (.cons ?_ (.cons ?_ (.cons ?_ (.nil _))))))))))))
            · intro L v wx hd hn ⟨hB, s0, s1, h0, h1, h2, h3, h4, h5, h6, h7, h8, h9, h10⟩ K hK
              rw [if_pos (by simp [Region.wanted])]
              go_wp2_with fail
              exact hK _ (.int .i64 (J : Int)) _ (by simp only [Act.put, pA, pB, pC]) ⟨hB, s0, s1, (fun _ => rfl), h1, h2, h3, h4, h5, h6, h7, h8, h9, h10⟩
            · intro L v wx hd hn ⟨hB, s0, s1, h0, h1, h2, h3, h4, h5, h6, h7, h8, h9, h10⟩ K hK
              have e0 := h0 (zdq hd 0 rfl)
              rw [if_pos (by simp [Region.wanted])]
              go_wp2_with fail
              exact hK _ (.bool true) _ (by simp only [Act.put, pA, pB, pC, e0]) ⟨hB, s0, s1, h0, (fun _ => rfl), h2, h3, h4, h5, h6, h7, h8, h9, h10⟩
            · intro L v wx hd hn ⟨hB, s0, s1, h0, h1, h2, h3, h4, h5, h6, h7, h8, h9, h10⟩ K hK
              have e1 := h1 (zdq hd 1 rfl)
              rw [if_pos (by simp [Region.wanted])]
              go_wp2_with fail
              exact hK _ (.bool true) _ (by simp only [Act.put, pA, pB, pC, e1]) ⟨hB, s0, s1, h0, h1, (fun _ => rfl), h3, h4, h5, h6, h7, h8, h9, h10⟩
            · intro L v wx hd hn ⟨hB, s0, s1, h0, h1, h2, h3, h4, h5, h6, h7, h8, h9, h10⟩ K hK
              have e2 := h2 (zdq hd 2 rfl)
              rw [if_pos (by simp [Region.wanted, yielded, e2])]
              go_wp2_with fail
              exact hK _ (.slice (some ⟨g, 0, none⟩) (J + 1) cap0) _ (by simp only [Act.put, pA, pB, pC, e2]) ⟨hB, s0, s1, h0, h1, h2, (fun _ => rfl), h4, h5, h6, h7, h8, h9, h10⟩
            · intro L v wx hd hn ⟨hB, s0, s1, h0, h1, h2, h3, h4, h5, h6, h7, h8, h9, h10⟩ K hK
              have e2 := h2 (zdq hd 2 rfl)
              rw [if_pos (by simp [Region.wanted, yielded, e2])]
              go_wp2_with fail
              exact hK _ (.int .i64 (J : Int)) _ (by simp only [Act.put, pA, pB, pC, e2]) ⟨hB, s0, s1, h0, h1, h2, h3, (fun _ => rfl), h5, h6, h7, h8, h9, h10⟩
            · intro L v wx hd hn ⟨hB, s0, s1, h0, h1, h2, h3, h4, h5, h6, h7, h8, h9, h10⟩ K hK
              have e3 := h3 (zdq hd 3 rfl)
              have e4 := h4 (zdq hd 4 rfl)
              have e2 := h2 (zdq hd 2 rfl)
              rw [if_pos (by simp [Region.wanted, yielded, e2])]
              go_wp2_with fail
              exact hK _ (.pointer (some ⟨g, J * 65, none⟩)) _ (by simp only [Act.put, pA, pB, pC, e3, e4, e2]) ⟨hB, s0, s1, h0, h1, h2, h3, h4, (fun _ => rfl), h6, h7, h8, h9, h10⟩
            · intro L v wx hd hn ⟨hB, s0, s1, h0, h1, h2, h3, h4, h5, h6, h7, h8, h9, h10⟩ K hK
              have e5 := h5 (zdq hd 5 rfl)
              have e2 := h2 (zdq hd 2 rfl)
              rw [if_pos (by simp [Region.wanted, yielded, e2])]
              go_wp2_with fail
              exact hK _ (.pointer (some ⟨g, J * 65, none⟩)) _ (by simp only [Act.put, pA, pB, pC, e5, e2]) ⟨hB, s0, s1, h0, h1, h2, h3, h4, h5, (fun _ => rfl), h7, h8, h9, h10⟩
            · intro L v wx hd hn ⟨hB, s0, s1, h0, h1, h2, h3, h4, h5, h6, h7, h8, h9, h10⟩ K hK
              have e6 := h6 (zdq hd 6 rfl)
              have e2 := h2 (zdq hd 2 rfl)
              rw [if_pos (by simp [Region.wanted, yielded, e2])]
              have hr := (s1.1.range (i := J) (c := facC (ofN p x.1) x.2) (by rw [facRows_snoc, HJ.out]; simp [facRows_len]))
              have hr2 : wx.rangeAt g (J * 65) (bl 64 (ofN p x.1)) := fun j u hu => hr j u (by unfold facC; rw [List.getElem?_append_left (List.getElem?_eq_some_iff.1 hu).1]; exact hu)
              refine wp_load_mid 23 _ rfl _ (J * 65) e6 _ _ hr2 Try.underlying23 rfl (by rw [zl]; exact Try.size23) ?_
              exact hK _ _ _ rfl ⟨hB, s0, s1, h0, h1, h2, h3, h4, h5, h6, (fun _ => rfl), h8, h9, h10⟩
            · intro L v wx hd hn ⟨hB, s0, s1, h0, h1, h2, h3, h4, h5, h6, h7, h8, h9, h10⟩ K hK
              have e2 := h2 (zdq hd 2 rfl)
              rw [if_pos (by simp [Region.wanted, yielded, e2])]
              refine zlc s0 Try.underlying23 Try.size23 ?_
              exact hK _ _ _ rfl ⟨hB, s0, s1, h0, h1, h2, h3, h4, h5, h6, h7, (fun _ => rfl), h9, h10⟩
            · intro L v wx hd hn ⟨hB, s0, s1, h0, h1, h2, h3, h4, h5, h6, h7, h8, h9, h10⟩ K hK
              have e7 := h7 (zdq hd 7 rfl)
              have e8 := h8 (zdq hd 8 rfl)
              have e2 := h2 (zdq hd 2 rfl)
              rw [if_pos (by simp [Region.wanted, yielded, e2])]
              go_wp2_with fail
              exact hK _ (.bool false) _ (by simp only [Act.put, pA, pB, pC, e7, e8, e2]) ⟨hB, s0, s1, h0, h1, h2, h3, h4, h5, h6, h7, h8, (fun _ => rfl), h10⟩
            · intro L v wx hd hn ⟨hB, s0, s1, h0, h1, h2, h3, h4, h5, h6, h7, h8, h9, h10⟩ K hK
              have e2 := h2 (zdq hd 2 rfl)
              have e9 := h9 (zdq hd 9 rfl)
              rw [if_pos (by simp [Region.wanted])]
              go_wp2_with fail
              exact hK _ (.bool false) _ (by simp only [Act.put, pA, pB, pC, e2, e9]) ⟨hB, s0, s1, h0, h1, h2, h3, h4, h5, h6, h7, h8, h9, (fun _ => rfl)⟩
          · intro L v wx hL ⟨hB, s0, s1, h0, h1, h2, h3, h4, h5, h6, h7, h8, h9, h10⟩
            have e10 := h10 (hL 10 (by decide))
            simp only [Exit.then, e10]
            clear hL hb B0 B1 B2 B3 h0 h1 h2 h3 h4 h5 h6 h7 h8 h9 h10 hgd heq
            have hb := hB
            have B3 := s0
            have B1 := s1
            clear hB s0 s1 e10
            have lu_1 := B1.lt
            have lu_3 := B3.lt
            go_wp2_with (first | (refine zla (.tmp 13) B3 Try.underlying23 Try.size23 ?_) | (refine zbo rfl 149 _ rfl (facC (monP p X) 1).toArray (by rw [Array.toList_map]; exact built_fac2 _ 1) ?_) | (refine wpList_build1 rfl 146 _ (facC (monP p X) 1) 65 rfl 149 Try.underlying146 Try.elemFac (by decide) (by decide) (facC_len _ _) rfl ?_; intro wa hps hba; have eB1 := B1.zw hba; have eB3 := B3.zw hba; have ehb := hb.trans (hba.mono hb.size)) | (at_builtin; refine wpList_append_sl _ rfl _ _ 146 rfl base 149 (.agg (facC (fun _ => 0) 0).toArray) 65 72 Try.underlying146 Try.infoFac (by simp [Value.cells, facC_len]) (by decide) (.slice (some ⟨g, 0, none⟩) (J + 1) cap0) _ rfl eB1.1 wx.heap.size (facC (monP p X) 1) rfl (facC_len _ _) hps.range (facC_one _ _) (by rw [facRows_len]; unfold maxLen; omega) (by rw [facRows_len]; omega) ?_; intro vp wp hSp hg1; have fhb := ehb.grown hg1 ehb.size (fun k e => Nat.le_trans ybw (eB1.1.own k e))))
            go_ret
            exact ⟨_, rfl, by rw [HR.out.1, facRows_app, HRW.out]; exact hSp.base ybw, fhb⟩
    · have hnx : ¬ 0 < deg X := h0X
      have HR2 := Lib.hid (show run p 64 1 f = LL by rw [HR.out.1, finL_z (by omega), List.append_nil])
      clear HR
      go_wp2_with fail
      go_ret
      exact ⟨_, rfl, by rw [HR2.out]; exact B1.1.base ybw, hb⟩
end Go.Proofs.Ytobcdekochenfaa
namespace Go.Proofs.Ytobcdekochenfaa
open Go Go.RowKit
set_option linter.unusedVariables false
set_option linter.unusedSimpArgs false
attribute [local irreducible] deg facRows run
/-- the degrees of the factors, together -/
def wtS (p : Nat) : List (Nat × Nat) → Nat
 | [] => 0
 | x :: l => (deg (ofN p x.1)).toNat * x.2 + wtS p l
theorem wtS_app (p : Nat) : ∀ (l m : List (Nat × Nat)), wtS p (l ++ m) = wtS p l + wtS p m
 | [], m => by show wtS p m = 0 + wtS p m; omega
 | x :: l, m => by
  show (deg (ofN p x.1)).toNat * x.2 + wtS p (l ++ m) = (deg (ofN p x.1)).toNat * x.2 + wtS p l + wtS p m
  rw [wtS_app p l m]; omega
theorem wtS_len {p : Nat} : ∀ {l : List (Nat × Nat)}, (∀ x ∈ l, 1 ≤ x.2 ∧ 1 ≤ deg (ofN p x.1)) → l.length ≤ wtS p l
 | [], _ => Nat.zero_le _
 | x :: l, h => by
  have h1 := wtS_len (l := l) (fun y hy => h y (by simp [hy]))
  obtain ⟨h2, h3⟩ := h x (by simp)
  have h4 : 1 * 1 ≤ (deg (ofN p x.1)).toNat * x.2 := Nat.mul_le_mul (by omega) h2
  show l.length + 1 ≤ (deg (ofN p x.1)).toNat * x.2 + wtS p l
  omega
theorem dvo_deg {p d : Nat} {m : Nat → Nat} (hp : p = 2 ∨ p = 3 ∨ p = 5 ∨ p = 7) (hmp : ∀ k, k < 64 → m k < p) (hm : mon m d) : ∀ (f : Nat) (a : Nat → Nat), (∀ k, k < 64 → a k < p) → 0 ≤ deg a → deg (dvo p m f a).2 + (((dvo p m f a).1 * d : Nat) : Int) = deg a
 | 0, a, _, _ => by show deg a + ((0 * d : Nat) : Int) = deg a; rw [Nat.zero_mul]; omega
 | f + 1, a, ha, h0 => by
  by_cases hz : deg (resP p a m) < 0
  · obtain ⟨q0, qd⟩ := quo_nz hp ha hmp hm h0 hz
    have := dvo_deg hp hmp hm f (quoP p a m) (fun k _ => quoP_lt (by omega) k) q0
    rw [dvo, if_pos hz]
    show deg (dvo p m f (quoP p a m)).2 + ((((dvo p m f (quoP p a m)).1 + 1) * d : Nat) : Int) = deg a
    rw [Nat.succ_mul]
    omega
  · rw [dvo, if_neg hz]; show deg a + ((0 * d : Nat) : Int) = deg a; rw [Nat.zero_mul]; omega
theorem foR_wt {p n : Nat} (hp : p = 2 ∨ p = 3 ∨ p = 5 ∨ p = 7) (hn2 : n < 64) : ∀ (ms : List Nat) (a : Nat → Nat), okL p n ms → (∀ k, k < 64 → a k < p) → 0 ≤ deg a →
 (∀ x ∈ (foR p ms a).1, 1 ≤ x.2 ∧ deg (ofN p x.1) = (n : Int)) ∧ deg (foR p ms a).2 + (wtS p (foR p ms a).1 : Int) = deg a
 | [], a, _, _, _ => ⟨fun x h => (by cases h), by show deg a + ((0 : Nat) : Int) = deg a; omega⟩
 | N :: ms, a, hms, ha, h0 => by
  have hm := mon_ofN (by omega) hn2 (hms N (by simp))
  have hlt : ∀ k, k < 64 → ofN p N k < p := fun k _ => ofN_lt (by omega) N k
  obtain ⟨d1, d2, _, _⟩ := dvo_ok hp hlt hm 64 a ha h0
  have dd := dvo_deg hp hlt hm 64 a ha h0
  obtain ⟨i1, i2⟩ := foR_wt hp hn2 ms (dvo p (ofN p N) 64 a).2 (fun M hM => hms M (by simp [hM])) d1 d2
  rw [foR]
  obtain ⟨K, hK⟩ : ∃ K, K = (dvo p (ofN p N) 64 a).1 := ⟨_, rfl⟩
  rw [← hK] at dd ⊢
  by_cases h : 0 < K
  · rw [if_pos h]
    refine ⟨fun x hx => ?_, ?_⟩
    · rcases List.mem_append.1 hx with h1 | h1
      · rw [List.mem_singleton] at h1; subst h1; exact ⟨h, hm.1⟩
      · exact i1 x h1
    · show deg (foR p ms (dvo p (ofN p N) 64 a).2).2 + ((wtS p ([(N, K)] ++ (foR p ms (dvo p (ofN p N) 64 a).2).1) : Nat) : Int) = deg a
      rw [wtS_app]
      have e : wtS p [(N, K)] = K * n := by show (deg (ofN p N)).toNat * K + 0 = K * n; rw [hm.1, Int.toNat_natCast, Nat.mul_comm]; rfl
      rw [e]
      omega
  · rw [if_neg h]
    have e0 : K = 0 := by omega
    rw [e0, Nat.zero_mul] at dd
    refine ⟨fun x hx => i1 x (by simpa using hx), ?_⟩
    show deg (foR p ms (dvo p (ofN p N) 64 a).2).2 + ((wtS p ([] ++ (foR p ms (dvo p (ofN p N) 64 a).2).1) : Nat) : Int) = deg a
    rw [List.nil_append]
    omega
theorem run_wt {p : Nat} (hp : p = 2 ∨ p = 3 ∨ p = 5 ∨ p = 7) : ∀ (f n : Nat) (a : Nat → Nat), 1 ≤ n → (∀ k, k < 64 → a k < p) → 0 ≤ deg a → lowf p n a → (∀ x ∈ run p f n a, 1 ≤ x.2 ∧ 1 ≤ deg (ofN p x.1)) ∧ (wtS p (run p f n a) : Int) ≤ deg a
 | 0, n, a, _, _, h0, _ => ⟨fun x h => (by unfold run at h; cases h), (by unfold run; exact h0)⟩
 | f + 1, n, a, hn, ha, h0, hl => by
  by_cases hz : deg a ≤ 0
  · rw [run_z hz]; exact ⟨fun x h => (by cases h), h0⟩
  · have hlow := low_deg hp ha (by omega) hl
    have hn2 : n < 64 := by have := zdb a; omega
    obtain ⟨s1, s2, s3, s4, s5⟩ := foR_spec hp hn hn2 (monL p n) a (fun _ h => h) ha h0 hl
    obtain ⟨f1, f2⟩ := foR_wt hp hn2 (monL p n) a (fun _ h => h) ha h0
    obtain ⟨i1, i2⟩ := run_wt hp f (n + 1) _ (by omega) s1 s2 (lowf_next (by omega) hl s4 s5)
    rw [run_s hz]
    refine ⟨fun x hx => ?_, ?_⟩
    · rcases List.mem_append.1 hx with h | h
      · obtain ⟨g1, g2⟩ := f1 x h; exact ⟨g1, by omega⟩
      · exact i1 x h
    · rw [wtS_app]; push_cast; omega
theorem run_ok {p : Nat} {f : Nat → Nat} (hp : p = 2 ∨ p = 3 ∨ p = 5 ∨ p = 7) (lf : ∀ k, k < 64 → f k < p) (h0 : 0 ≤ deg f) (h12 : deg f ≤ 12) : (run p 64 1 f).length ≤ 12 ∧ wtS p (run p 64 1 f) ≤ 12 ∧ ∀ x ∈ run p 64 1 f, 1 ≤ x.2 ∧ 1 ≤ deg (ofN p x.1) := by
 obtain ⟨h1, h2⟩ := run_wt hp 64 1 f (Nat.le_refl _) lf h0 (lowf_one f)
 have := wtS_len h1
 exact ⟨by omega, by omega, h1⟩
end Go.Proofs.Ytobcdekochenfaa
end
section
namespace Go.Proofs.Ytobcdekochenfaa
open Go Go.RowKit
set_option linter.unusedVariables false
/-- the blocks of w, those of S aside, are in w' as they were -/
def Kx (S : List Nat) (w w' : World) : Prop := w.heap.size ≤ w'.heap.size ∧ ∀ b, b < w.heap.size → b ∉ S → w'.heap[b]? = w.heap[b]?
theorem Kx.start (S : List Nat) (w : World) : Kx S w w.drew := ⟨Nat.le_refl _, fun _ _ _ => rfl⟩
theorem Kx.below {S : List Nat} {w w1 w2 : World} (h : Kx S w w1) (hy : Below w1.heap.size w1 w2) : Kx S w w2 :=
 ⟨Nat.le_trans h.1 hy.size, fun b hb hs => (hy.block b (Nat.lt_of_lt_of_le hb h.1)).trans (h.2 b hb hs)⟩
theorem Kx.alloc {S : List Nat} {w w1 : World} (h : Kx S w w1) (o : Obj) : Kx S w (w1.alloc o) := h.below (zal _ _)
theorem Kx.row {S : List Nat} {w w1 : World} (h : Kx S w w1) {s : Nat} (hs : s ∈ S) (cs : Array Value) : Kx S w (w1.setRow s cs) :=
 ⟨by simpa [World.setRow] using h.1, fun b hb hn => by rw [setRow_other _ _ _ _ (fun e => hn (by rw [e]; exact hs))]; exact h.2 b hb hn⟩
theorem Blk.kx {S : List Nat} {w w' : World} {b n : Nat} {t : TypeId} {f : Nat → Nat} (h : Blk w b n t f) (hX : Kx S w w') (hn : b ∉ S) : Blk w' b n t f := by
 have hl := h.lt
 unfold Blk at *; rw [hX.2 b hl hn]; exact h
theorem Row.kx {S : List Nat} {w w' : World} {b : Nat} {t : TypeId} {cs : Array Value} (h : Row w b t cs) (hX : Kx S w w') (hn : b ∉ S) : Row w' b t cs := h.of (hX.2 b h.lt hn)
theorem One.kx {S : List Nat} {w w' : World} {b : Nat} {t : TypeId} {v : Value} (h : One w b t v) (hX : Kx S w w') (hn : b ∉ S) : One w' b t v := h.of (hX.2 b h.lt hn)
end Go.Proofs.Ytobcdekochenfaa
end
