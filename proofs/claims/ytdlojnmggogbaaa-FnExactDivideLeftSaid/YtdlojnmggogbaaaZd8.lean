/-
  What the rows of this claim rest on: arrays of bytes, walks of the functions, plain mathematics.
-/
import Derived.Test.YtdlojnmggogbaaaZd7
import Derived.OpenShut
import Derived.ProofKit
import Derived.Test.YtdlojnmggogbaaaRows
import Derived.JoinedOf
section
namespace Go.Proofs.Ytdlojnmggogbaaa
open Go Go.RowKit
set_option linter.unusedVariables false
set_option linter.unusedSimpArgs false
attribute [local irreducible] deg addK strP frI frN mmP pmP resP bzU bzD bzW skA skD
set_option maxRecDepth 100000 in
set_option maxHeartbeats 1600000 in
theorem leading_any (F : Nat → Nat → Nat) (n : Nat) (hn : skD F = (n : Int)) (w : World) :
 Calls Try.prog 186 #[.agg (zb 512 (fl 64 F))] w fun e w' => e = .returned (.agg (zb 64 (F n))) ∧ Below w.heap.size w w' := by
 have n8 : n < 8 := (skN_row hn).1
 have HN := Lib.hid hn
 clear hn
 go_enter Try.func186, Try.ntmps186
 go_upto_region 1 with (fail)
 rw [← z64]
 obtain ⟨W1, hwo⟩ : ∃ v : World, v = ((w.alloc (.cells (zb 512 (fl 64 F)) 26)).alloc (.cells (zb 64 (fun _ => 0)) 24)) := ⟨_, rfl⟩
 have B0 : Blk W1 (w.heap.size) 512 26 (fl 64 F) := by subst hwo; have := ((Blk.new w 512 26 (fl 64 F)).alloc (.cells (zb 64 (fun _ => 0)) 24)); simpa using this
 have B1 : Blk W1 (w.heap.size + 1) 64 24 (fun _ => 0) := by subst hwo; have := (Blk.new (w.alloc (.cells (zb 512 (fl 64 F)) 26)) 64 24 (fun _ => 0)); simpa using this
 have hb : Below w.heap.size w W1 := by subst hwo; exact (((Below.refl _ _).alloc (Nat.le_refl _) _).alloc (by simp) _)
 rw [← hwo]
 clear hwo
 have lt_B0 := B0.lt
 have lt_B1 := B1.lt
 go_wp2_with (first | rw [← z64] | (refine zla (.tmp 1) B0 Try.underlying26 Try.size26 ?_) | (go_at_call 86; refine (skDegree_any F _).mono ?_; rintro e W2 ⟨rfl, hW2⟩; replace B0 := B0.zw hW2; replace B1 := B1.zw hW2; replace hb := (hb).trans (hW2.mono (hb).size); rw [HN.out]) | (refine wpList_load_mid rfl 24 (.tmp 5) rfl _ (n * 64) rfl (bl 64 (F n)) _ ((B0).sk (by omega)) Try.underlying24 rfl (by rw [zl]; exact Try.size24) ?_) | (refine zsr (.tmp 2) (.tmp 6) (F n) B1 Try.size24 ?_; try simp only [Act.put]))
 obtain ⟨W3, hwo, hzQ⟩ : ∃ v : World, v = (W2.setRow (w.heap.size + 1) (zb 64 (F n))) ∧ Blk v (w.heap.size) 512 26 (fl 64 F) ∧ Blk v (w.heap.size + 1) 64 24 (F n) ∧ Below w.heap.size w v := ⟨_, rfl, (B0.rowOther (by omega)), (B1.row (F n)), (zr hb (by omega) _)⟩
 rw [← hwo]
 clear hwo B0 B1 hb
 obtain ⟨B0, B1, hb⟩ := hzQ
 try simp only [Act.put, pA, pB, pC]
 refine bodyPost_ret (zrb rfl _ _ _ 64 24 5 _ rfl B1 Try.underlying24 Try.size24) rfl ⟨rfl, hb⟩
set_option maxRecDepth 100000 in
set_option maxHeartbeats 1600000 in
theorem quotient_any (p : Nat) (m x y : Nat → Nat) (w : World) (hpr : p = 2 ∨ p = 3 ∨ p = 5 ∨ p = 7) (lm : ∀ k, k < 64 → m k < p) (h0 : 0 ≤ deg m) (lx : ∀ k, k < 64 → x k < p) (ly : ∀ k, k < 64 → y k < p) :
 Calls Try.prog 185 #[.agg (fdC (p : Int) m).toArray, .agg (zb 64 x), .agg (zb 64 y)] w fun e w' => e = .returned (.agg (zb 64 (mmP p x (bzU p y m) m))) ∧ Below w.heap.size w w' := by
 have HB := Lib.hid (fun W => bezout_any p y m W hpr ly lm (.inr h0))
 have HP := Lib.hid (fun W => kproduct_any p m x (bzU p y m) W hpr lm h0 lx (fun k _ => bzU_lt (by omega) k))
 clear h0 lx ly lm
 go_enter Try.func185, Try.ntmps185
 go_upto_region 1 with (fail)
 rw [← z64]
 obtain ⟨W1, hwo⟩ : ∃ v : World, v = ((((w.alloc (.cells (fdC (p : Int) m).toArray 94)).alloc (.cells (zb 64 (x)) 24)).alloc (.cells (zb 64 (y)) 24)).alloc (.cells (zb 64 (fun _ => 0)) 24)) := ⟨_, rfl⟩
 have B0 : Row W1 (w.heap.size) 94 (fdC (p : Int) m).toArray := by subst hwo; have := ((((Row.new w 94 (fdC (p : Int) m).toArray).alloc (.cells (zb 64 (x)) 24)).alloc (.cells (zb 64 (y)) 24)).alloc (.cells (zb 64 (fun _ => 0)) 24)); simpa using this
 have B1 : Blk W1 (w.heap.size + 1) 64 24 (x) := by subst hwo; have := (((Blk.new (w.alloc (.cells (fdC (p : Int) m).toArray 94)) 64 24 (x)).alloc (.cells (zb 64 (y)) 24)).alloc (.cells (zb 64 (fun _ => 0)) 24)); simpa using this
 have B2 : Blk W1 (w.heap.size + 1 + 1) 64 24 (y) := by subst hwo; have := ((Blk.new ((w.alloc (.cells (fdC (p : Int) m).toArray 94)).alloc (.cells (zb 64 (x)) 24)) 64 24 (y)).alloc (.cells (zb 64 (fun _ => 0)) 24)); simpa using this
 have B3 : Blk W1 (w.heap.size + 1 + 1 + 1) 64 24 (fun _ => 0) := by subst hwo; have := (Blk.new (((w.alloc (.cells (fdC (p : Int) m).toArray 94)).alloc (.cells (zb 64 (x)) 24)).alloc (.cells (zb 64 (y)) 24)) 64 24 (fun _ => 0)); simpa using this
 have hb : Below w.heap.size w W1 := by subst hwo; exact (((((Below.refl _ _).alloc (Nat.le_refl _) _).alloc (by simp) _).alloc (by simp; omega) _).alloc (by simp; omega) _)
 rw [← hwo]
 clear hwo
 have cc := B0.cell (i := 0) (v := .int .i64 (p : Int)) (fdC_at (p : Int) m)
 have lt_B0 := B0.lt
 have lt_B1 := B1.lt
 have lt_B2 := B2.lt
 have lt_B3 := B3.lt
 go_upto_region 2 with (first | rw [← z64] | (refine zla (.tmp 5) B2 Try.underlying24 Try.size24 ?_) | (refine wpList_load_mid rfl 24 (.tmp 14) rfl _ 1 rfl (bl 64 m) _ (B0.fd) Try.underlying24 rfl (by rw [zl]; exact Try.size24) ?_) | (go_at_call 236; refine (HB.out _).mono ?_; rintro e W2 ⟨rfl, hW2⟩; replace B0 := B0.zw hW2; replace B1 := B1.zw hW2; replace B2 := B2.zw hW2; replace B3 := B3.zw hW2; replace hb := (hb).trans (hW2.mono (hb).size)) | (refine wpList_store_blk rfl 24 (.tmp 7) (.tmp 17) rfl _ 64 (bzD p y m) rfl rfl 24 _ ((((Blk.new W2 64 24 (fun _ => 0)).alloc (.cells (zb 64 (fun _ => 0)) 24)).alloc (.cells (zb 64 (fun _ => 0)) 24))) Try.size24 ?_; try simp only [Act.put]) | (refine wpList_store_blk rfl 24 (.tmp 8) (.tmp 18) rfl _ 64 (bzU p y m) rfl rfl 24 _ ((((show Blk ((W2.alloc (.cells (zb 64 (fun _ => 0)) 24)).alloc (.cells (zb 64 (fun _ => 0)) 24)) (W2.heap.size + 1) 64 24 (fun _ => 0) by have := Blk.new (W2.alloc (.cells (zb 64 (fun _ => 0)) 24)) 64 24 (fun _ => 0); simpa using this).alloc (.cells (zb 64 (fun _ => 0)) 24)).rowOther (by omega))) Try.size24 ?_; try simp only [Act.put]) | (refine wpList_store_blk rfl 24 (.tmp 9) (.tmp 19) rfl _ 64 (bzW p y m) rfl rfl 24 _ ((((show Blk (((W2.alloc (.cells (zb 64 (fun _ => 0)) 24)).alloc (.cells (zb 64 (fun _ => 0)) 24)).alloc (.cells (zb 64 (fun _ => 0)) 24)) (W2.heap.size + 1 + 1) 64 24 (fun _ => 0) by have := Blk.new ((W2.alloc (.cells (zb 64 (fun _ => 0)) 24)).alloc (.cells (zb 64 (fun _ => 0)) 24)) 64 24 (fun _ => 0); simpa using this).rowOther (by omega)).rowOther (by omega))) Try.size24 ?_; try simp only [Act.put]))
 have lt_B0 := B0.lt
 have lt_B1 := B1.lt
 have lt_B2 := B2.lt
 have lt_B3 := B3.lt
 have lhb := hb.size
 obtain ⟨W3, hwo, hzQ⟩ : ∃ v : World, v = ((((((W2.alloc (.cells (zb 64 (fun _ => 0)) 24)).alloc (.cells (zb 64 (fun _ => 0)) 24)).alloc (.cells (zb 64 (fun _ => 0)) 24)).setRow (W2.heap.size) (zb 64 (bzD p y m))).setRow (W2.heap.size + 1) (zb 64 (bzU p y m))).setRow (W2.heap.size + 1 + 1) (zb 64 (bzW p y m))) ∧ Row v (w.heap.size) 94 (fdC (p : Int) m).toArray ∧ Blk v (w.heap.size + 1) 64 24 (x) ∧ Blk v (w.heap.size + 1 + 1) 64 24 (y) ∧ Blk v (w.heap.size + 1 + 1 + 1) 64 24 (fun _ => 0) ∧ Blk v (W2.heap.size) 64 24 (bzD p y m) ∧ Blk v (W2.heap.size + 1) 64 24 (bzU p y m) ∧ Blk v (W2.heap.size + 1 + 1) 64 24 (bzW p y m) ∧ Below w.heap.size w v := ⟨_, rfl, ((((((B0.alloc (.cells (zb 64 (fun _ => 0)) 24)).alloc (.cells (zb 64 (fun _ => 0)) 24)).alloc (.cells (zb 64 (fun _ => 0)) 24)).rowOther (by omega)).rowOther (by omega)).rowOther (by omega)), ((((((B1.alloc (.cells (zb 64 (fun _ => 0)) 24)).alloc (.cells (zb 64 (fun _ => 0)) 24)).alloc (.cells (zb 64 (fun _ => 0)) 24)).rowOther (by omega)).rowOther (by omega)).rowOther (by omega)), ((((((B2.alloc (.cells (zb 64 (fun _ => 0)) 24)).alloc (.cells (zb 64 (fun _ => 0)) 24)).alloc (.cells (zb 64 (fun _ => 0)) 24)).rowOther (by omega)).rowOther (by omega)).rowOther (by omega)), ((((((B3.alloc (.cells (zb 64 (fun _ => 0)) 24)).alloc (.cells (zb 64 (fun _ => 0)) 24)).alloc (.cells (zb 64 (fun _ => 0)) 24)).rowOther (by omega)).rowOther (by omega)).rowOther (by omega)), ((((((Blk.new W2 64 24 (fun _ => 0)).alloc (.cells (zb 64 (fun _ => 0)) 24)).alloc (.cells (zb 64 (fun _ => 0)) 24)).row (bzD p y m)).rowOther (by omega)).rowOther (by omega)), (((((show Blk ((W2.alloc (.cells (zb 64 (fun _ => 0)) 24)).alloc (.cells (zb 64 (fun _ => 0)) 24)) (W2.heap.size + 1) 64 24 (fun _ => 0) by have := Blk.new (W2.alloc (.cells (zb 64 (fun _ => 0)) 24)) 64 24 (fun _ => 0); simpa using this).alloc (.cells (zb 64 (fun _ => 0)) 24)).rowOther (by omega)).row (bzU p y m)).rowOther (by omega)), ((((show Blk (((W2.alloc (.cells (zb 64 (fun _ => 0)) 24)).alloc (.cells (zb 64 (fun _ => 0)) 24)).alloc (.cells (zb 64 (fun _ => 0)) 24)) (W2.heap.size + 1 + 1) 64 24 (fun _ => 0) by have := Blk.new ((W2.alloc (.cells (zb 64 (fun _ => 0)) 24)).alloc (.cells (zb 64 (fun _ => 0)) 24)) 64 24 (fun _ => 0); simpa using this).rowOther (by omega)).rowOther (by omega)).row (bzW p y m)), (zr (zr (zr (((hb.alloc (by have := hb.size; simp; omega) (.cells (zb 64 (fun _ => 0)) 24)).alloc (by have := hb.size; simp; omega) (.cells (zb 64 (fun _ => 0)) 24)).alloc (by have := hb.size; simp; omega) (.cells (zb 64 (fun _ => 0)) 24)) (by omega) _) (by omega) _) (by omega) _)⟩
 rw [← hwo]
 clear hwo B0 B1 B2 B3 hb
 obtain ⟨B0, B1, B2, B3, B4, B5, B6, hb⟩ := hzQ
 obtain ⟨N1, hNN⟩ : ∃ n : Nat, n = W2.heap.size := ⟨_, rfl⟩
 rw [← hNN] at lt_B0 lt_B1 lt_B2 lt_B3 lhb B4 B5 B6 ⊢
 clear hNN
 have zN1_0 := lt_B0
 have zN1_1 := lt_B1
 have zN1_2 := lt_B2
 have zN1_3 := lt_B3
 have zN1 := lhb
 clear lt_B0 lt_B1 lt_B2 lt_B3 lhb
 try simp only [Act.put, pA, pB, pC]
 have lt_B0 := B0.lt
 have lt_B1 := B1.lt
 have lt_B2 := B2.lt
 have lt_B3 := B3.lt
 have lt_B4 := B4.lt
 have lt_B5 := B5.lt
 have lt_B6 := B6.lt
 go_wp2_with (first | rw [← z64] | (refine zlr rfl 94 (.tmp 3) rfl _ rfl 94 (fdC (p : Int) m).toArray B0 _ Try.underlying94 rfl 65 Try.size94 (by simp [fdC_len]) ?_) | (refine zla (.tmp 4) B1 Try.underlying24 Try.size24 ?_) | (refine zla (.tmp 8) B5 Try.underlying24 Try.size24 ?_) | (go_at_call 178; refine (HP.out _).mono ?_; rintro e W4 ⟨rfl, hW4⟩; replace B0 := B0.zw hW4; replace B1 := B1.zw hW4; replace B2 := B2.zw hW4; replace B3 := B3.zw hW4; replace B4 := B4.zw hW4; replace B5 := B5.zw hW4; replace B6 := B6.zw hW4; replace hb := (hb).trans (hW4.mono (hb).size)) | (refine zsr (.tmp 6) (.tmp 23) (mmP p x (bzU p y m) m) B3 Try.size24 ?_; try simp only [Act.put]))
 obtain ⟨W5, hwo, hzQ⟩ : ∃ v : World, v = (W4.setRow (w.heap.size + 1 + 1 + 1) (zb 64 (mmP p x (bzU p y m) m))) ∧ Row v (w.heap.size) 94 (fdC (p : Int) m).toArray ∧ Blk v (w.heap.size + 1) 64 24 (x) ∧ Blk v (w.heap.size + 1 + 1) 64 24 (y) ∧ Blk v (w.heap.size + 1 + 1 + 1) 64 24 (mmP p x (bzU p y m) m) ∧ Blk v (N1) 64 24 (bzD p y m) ∧ Blk v (N1 + 1) 64 24 (bzU p y m) ∧ Blk v (N1 + 1 + 1) 64 24 (bzW p y m) ∧ Below w.heap.size w v := ⟨_, rfl, (B0.rowOther (by omega)), (B1.rowOther (by omega)), (B2.rowOther (by omega)), (B3.row (mmP p x (bzU p y m) m)), (B4.rowOther (by omega)), (B5.rowOther (by omega)), (B6.rowOther (by omega)), (zr hb (by omega) _)⟩
 rw [← hwo]
 clear hwo B0 B1 B2 B3 B4 B5 B6 hb
 obtain ⟨B0, B1, B2, B3, B4, B5, B6, hb⟩ := hzQ
 try simp only [Act.put, pA, pB, pC]
 refine bodyPost_ret (zrb rfl _ _ _ 64 24 5 _ rfl B3 Try.underlying24 Try.size24) rfl ⟨rfl, hb⟩
set_option maxRecDepth 100000 in
set_option maxHeartbeats 1600000 in
theorem skMinus_any (p : Nat) (m : Nat → Nat) (F G : Nat → Nat → Nat) (w : World) (p2 : 2 ≤ p) (p7 : p ≤ 7) (hF : ∀ i, i < 8 → ∀ j, j < 64 → F i j < p) (hG : ∀ i, i < 8 → ∀ j, j < 64 → G i j < p) :
 Calls Try.prog 188 #[.agg (zb 512 (fl 64 F)), .agg (fdC (p : Int) m).toArray, .agg (zb 512 (fl 64 G))] w fun e w' => e = .returned (.agg (zb 512 (fl 64 (skA p F G (-1))))) ∧ Below w.heap.size w w' := by
 have HZ := Lib.hid (skJ_z p F G (-1))
 have HA := Lib.hid (skJ_at p F G (-1))
 have HS := Lib.hid (skJ_s p F G (-1))
 have HV := Lib.hid (skJ_end p F G (-1))
 have HAD := Lib.hid (show ∀ j, j < 8 → ∀ W, Calls Try.prog 195 #[.int .i64 (p : Int), .agg (zb 64 (F j)), .agg (zb 64 (G j))] W fun e w' => e = .returned (.agg (zb 64 (addK p (F j) (G j) (-1)))) ∧ Below W.heap.size W w' from fun j hj W => by
  have h := difference_any p _ _ W p2 p7 (hF j hj) (hG j hj)
  rw [zbc (f := fun i => (F j i + p - G j i) % p) (g := addK p (F j) (G j) (-1)) (fun k hk => (addK_neg (by omega) (hG j hj) hk).symm)] at h
  exact h)
 clear hF hG
 go_enter Try.func188, Try.ntmps188
 go_upto_region 1 with (fail)
 rw [← zero512]
 obtain ⟨W1, hwo⟩ : ∃ v : World, v = ((((w.alloc (.cells (zb 512 (fl 64 F)) 26)).alloc (.cells (fdC (p : Int) m).toArray 94)).alloc (.cells (zb 512 (fl 64 G)) 26)).alloc (.cells (zb 512 (fl 64 (fun _ _ => 0))) 26)) := ⟨_, rfl⟩
 have B0 : Blk W1 (w.heap.size) 512 26 (fl 64 F) := by subst hwo; have := ((((Blk.new w 512 26 (fl 64 F)).alloc (.cells (fdC (p : Int) m).toArray 94)).alloc (.cells (zb 512 (fl 64 G)) 26)).alloc (.cells (zb 512 (fl 64 (fun _ _ => 0))) 26)); simpa using this
 have B1 : Row W1 (w.heap.size + 1) 94 (fdC (p : Int) m).toArray := by subst hwo; have := (((Row.new (w.alloc (.cells (zb 512 (fl 64 F)) 26)) 94 (fdC (p : Int) m).toArray).alloc (.cells (zb 512 (fl 64 G)) 26)).alloc (.cells (zb 512 (fl 64 (fun _ _ => 0))) 26)); simpa using this
 have B2 : Blk W1 (w.heap.size + 1 + 1) 512 26 (fl 64 G) := by subst hwo; have := ((Blk.new ((w.alloc (.cells (zb 512 (fl 64 F)) 26)).alloc (.cells (fdC (p : Int) m).toArray 94)) 512 26 (fl 64 G)).alloc (.cells (zb 512 (fl 64 (fun _ _ => 0))) 26)); simpa using this
 have B3 : Blk W1 (w.heap.size + 1 + 1 + 1) 512 26 (fl 64 (fun _ _ => 0)) := by subst hwo; have := (Blk.new (((w.alloc (.cells (zb 512 (fl 64 F)) 26)).alloc (.cells (fdC (p : Int) m).toArray 94)).alloc (.cells (zb 512 (fl 64 G)) 26)) 512 26 (fl 64 (fun _ _ => 0))); simpa using this
 have hb : Below w.heap.size w W1 := by subst hwo; exact (((((Below.refl _ _).alloc (Nat.le_refl _) _).alloc (by simp) _).alloc (by simp; omega) _).alloc (by simp; omega) _)
 rw [← hwo]
 clear hwo
 go_wp2_with fail
 go_loopw [8] (fun c wr => ∃ j : Nat, c = .int .i64 (j : Int) ∧ j ≤ 8 ∧ Below w.heap.size w wr ∧ Blk wr (w.heap.size) 512 26 (fl 64 (skJ p F G (-1) j)) ∧ Blk wr (w.heap.size + 1 + 1) 512 26 (fl 64 G) ∧ Blk wr (w.heap.size + 1 + 1 + 1) 512 26 (fl 64 (fun _ _ => 0)) ∧ Row wr (w.heap.size + 1) 94 (fdC (p : Int) m).toArray) (fun c _ => 8 - (intOf c).toNat)
 case atStart => exact ⟨0, rfl, by omega, hb, by rw [HZ.out]; exact B0, B2, B3, B1⟩
 case round =>
  clear hb B0 B2 B3 B1
  obtain ⟨j, rfl, hj8, hb, B0, B2, B3, B1⟩ := hrel
  by_cases hj : j < 8
  · have hjI : (j : Int) < 8 := by omega
    have HJ := Lib.hid (HA.out j)
    have HAJ := Lib.hid (show ∀ W, Calls Try.prog 195 #[.int .i64 (p : Int), .agg (zb 64 (skJ p F G (-1) j j)), .agg (zb 64 (G j))] W fun e w' => e = .returned (.agg (zb 64 (addK p (F j) (G j) (-1)))) ∧ Below W.heap.size W w' from fun W => by rw [HJ.out]; exact HAD.out j hj W)
    go_upto_region 4 with (fail)
    have lt_B0 : (w.heap.size) < wr.heap.size := B0.lt
    have lt_B1 : (w.heap.size + 1) < wr.heap.size := B1.lt
    have lt_B2 : (w.heap.size + 1 + 1) < wr.heap.size := B2.lt
    have lt_B3 : (w.heap.size + 1 + 1 + 1) < wr.heap.size := B3.lt
    have hbase : w.heap.size ≤ wr.heap.size := hb.size
    refine zq Try.mixed (by kernel_rfl) (by kernel_rfl) (fun v => by (simp only [frL, Act.put, pA, pB, pC, Nat.reduceAdd, Nat.zero_add]; exact rfl))
     (fun L v W2 => Below w.heap.size w W2 ∧ Kx [w.heap.size] wr W2 ∧ (∃ g, Blk W2 (w.heap.size) 512 26 (g)) ∧ (L 11 = false → Blk W2 (w.heap.size) 512 26 (fl 64 (skJ p F G (-1) j))) ∧ (L 11 = true → Blk W2 (w.heap.size) 512 26 (fl 64 (updR (skJ p F G (-1) j) j (addK p (F j) (G j) (-1))))) ∧ VF L v [some (.int .i64 (j : Int)), some (.pointer (some ⟨w.heap.size + 1, 0, none⟩)), some (.int .i64 (p : Int)), some (.int .i64 (j : Int)), some (.pointer (some ⟨w.heap.size, j * 64, none⟩)), some (.agg (zb 64 ((skJ p F G (-1) j) j))), some (.int .i64 (j : Int)), some (.pointer (some ⟨w.heap.size + 1 + 1, j * 64, none⟩)), some (.agg (zb 64 (G j))), some (.agg (zb 64 (addK p (F j) (G j) (-1)))), some (.pointer (some ⟨w.heap.size, j * 64, none⟩)), none]) ?_ ?_ ?_
    · intro v hv0
      exact ⟨hb.drew, Kx.start _ _, ⟨_, B0.drew⟩, (fun _ => B0.drew), (fun h => by cases h), VF.start⟩
    · refine (.cons rfl ?_ (.cons rfl ?_ (.cons rfl ?_ (.cons rfl ?_ (.cons rfl ?_ (.cons rfl ?_ (.cons rfl ?_ (.cons rfl ?_ (.cons rfl ?_ (.cons rfl ?_ (.cons rfl ?_ (.cons rfl ?_ (.nil _)))))))))))))
      all_goals intro L v W2 hd hn ⟨hB, hX, x0, q0, n0, V⟩ K hK
      · go_wp2_with fail
        exact hK _ (.int .i64 (j : Int)) _ (by simp only [Act.put, pA, pB, pC ]) ⟨hB, hX, x0, q0, n0, V.step 0 rfl⟩
      · go_wp2_with fail
        exact hK _ (.pointer (some ⟨w.heap.size + 1, 0, none⟩)) _ (by simp only [Act.put, pA, pB, pC ]) ⟨hB, hX, x0, q0, n0, V.step 1 rfl⟩
      · have e1 := V.at (zdq hd 1 rfl) rfl
        have cc := (B1.kx hX (by simp <;> omega)).cell (i := 0) (v := .int .i64 (p : Int)) (fdC_at (p : Int) m)
        go_wp2_with fail
        exact hK _ (.int .i64 (p : Int)) _ (by simp only [Act.put, pA, pB, pC, e1]) ⟨hB, hX, x0, q0, n0, V.step 2 rfl⟩
      · go_wp2_with fail
        exact hK _ (.int .i64 (j : Int)) _ (by simp only [Act.put, pA, pB, pC ]) ⟨hB, hX, x0, q0, n0, V.step 3 rfl⟩
      · have e3 := V.at (zdq hd 3 rfl) rfl
        go_wp2_with fail
        exact hK _ (.pointer (some ⟨w.heap.size, j * 64, none⟩)) _ (by simp only [Act.put, pA, pB, pC, e3]) ⟨hB, hX, x0, q0, n0, V.step 4 rfl⟩
      · have e4 := V.at (zdq hd 4 rfl) rfl
        have s0 := q0 (by
         cases hL : L 11 with
         | false => rfl
         | true => exact absurd rfl (hn 11 _ rfl hL ⟨5, .phase⟩ (by simp) rfl))
        refine wp_load_mid 24 _ rfl _ (j * 64) e4 _ _ ((s0).sk (by omega)) Try.underlying24 rfl (by rw [zl]; exact Try.size24) ?_
        exact hK _ _ _ rfl ⟨hB, hX, x0, q0, n0, V.step 5 rfl⟩
      · go_wp2_with fail
        exact hK _ (.int .i64 (j : Int)) _ (by simp only [Act.put, pA, pB, pC ]) ⟨hB, hX, x0, q0, n0, V.step 6 rfl⟩
      · have e6 := V.at (zdq hd 6 rfl) rfl
        go_wp2_with fail
        exact hK _ (.pointer (some ⟨w.heap.size + 1 + 1, j * 64, none⟩)) _ (by simp only [Act.put, pA, pB, pC, e6]) ⟨hB, hX, x0, q0, n0, V.step 7 rfl⟩
      · have e7 := V.at (zdq hd 7 rfl) rfl
        refine wp_load_mid 24 _ rfl _ (j * 64) e7 _ _ (((B2.kx hX (by simp <;> omega))).sk (by omega)) Try.underlying24 rfl (by rw [zl]; exact Try.size24) ?_
        exact hK _ _ _ rfl ⟨hB, hX, x0, q0, n0, V.step 8 rfl⟩
      · have e2 := V.at (zdq hd 2 rfl) rfl
        have e5 := V.at (zdq hd 5 rfl) rfl
        have e8 := V.at (zdq hd 8 rfl) rfl
        go_wp2_with (go_at_call 195; refine (HAJ.out _).mono ?_; rintro e wy ⟨rfl, hy⟩)
        exact hK _ (.agg (zb 64 (addK p (F j) (G j) (-1)))) _ (by simp only [Act.put, pA, pB, pC, e2, e5, e8]) ⟨hB.trans (hy.mono hB.size), hX.below hy, (let ⟨g, h⟩ := x0; ⟨g, h.zw hy⟩), (fun h => (q0 h).below hy (q0 h).lt), (fun h => (n0 h).below hy (n0 h).lt), V.step 9 rfl⟩
      · have e0 := V.at (zdq hd 0 rfl) rfl
        go_wp2_with fail
        exact hK _ (.pointer (some ⟨w.heap.size, j * 64, none⟩)) _ (by simp only [Act.put, pA, pB, pC, e0]) ⟨hB, hX, x0, q0, n0, V.step 10 rfl⟩
      · have e10 := V.at (zdq hd 10 rfl) rfl
        have e9 := V.at (zdq hd 9 rfl) rfl
        obtain ⟨gz, hk, hg⟩ : ∃ gz, Blk W2 (w.heap.size) 512 26 (fl 64 gz) ∧ updR gz (j) (addK p (F j) (G j) (-1)) = updR (skJ p F G (-1) j) (j) (addK p (F j) (G j) (-1)) := by
         cases hL : L 11 with
         | false => exact ⟨_, q0 hL, rfl⟩
         | true => exact ⟨_, n0 hL, updR_twice _ _ _⟩
        refine wp_store_sk 24 _ _ rfl _ (j) (addK p (F j) (G j) (-1)) e10 e9 26 gz hk (by omega) Try.size24 ?_
        rw [hg]
        exact hK _ undef _ rfl ⟨zr hB (by omega) _, hX.row (by simp) _, ⟨_, hk.row _⟩, (fun h => absurd h (by simp [setL])), (fun _ => hk.row _), V.skip 11 rfl⟩
    · intro L v W2 hL ⟨hB, hX, x0, q0, n0, V⟩
      have r0 := n0 (hL 11 (by decide))
      have e0 := V.at (hL 0 (by decide)) rfl
      have e1 := V.at (hL 1 (by decide)) rfl
      have e2 := V.at (hL 2 (by decide)) rfl
      have e3 := V.at (hL 3 (by decide)) rfl
      have e4 := V.at (hL 4 (by decide)) rfl
      have e5 := V.at (hL 5 (by decide)) rfl
      have e6 := V.at (hL 6 (by decide)) rfl
      have e7 := V.at (hL 7 (by decide)) rfl
      have e8 := V.at (hL 8 (by decide)) rfl
      have e9 := V.at (hL 9 (by decide)) rfl
      have e10 := V.at (hL 10 (by decide)) rfl
      clear hL x0 q0 n0 V
      replace B1 := B1.kx hX (by simp <;> omega)
      replace B2 := B2.kx hX (by simp <;> omega)
      replace B3 := B3.kx hX (by simp <;> omega)
      clear hX
      simp only [Exit.then, e0, e1, e2, e3, e4, e5, e6, e7, e8, e9, e10]
      clear e0 e1 e2 e3 e4 e5 e6 e7 e8 e9 e10
      replace B0 := r0
      clear r0
      replace hb := hB
      clear hB
      clear hbase lt_B0 lt_B1 lt_B2 lt_B3
      go_wp2_with fail
      go_roundw
      case rel => exact ⟨j + 1, by go_num, by omega, hb, by rw [← HS.out]; exact B0, B2, B3, B1⟩
      case measure => simp [intOf] <;> omega
  · have hjI : ¬ (j : Int) < 8 := by omega
    obtain rfl : j = 8 := by omega
    go_upto_region 6 with (fail)
    have lt_B0 := B0.lt
    have lt_B1 := B1.lt
    have lt_B2 := B2.lt
    have lt_B3 := B3.lt
    go_wp2_with (first | rw [← z64] | rw [← zero512] | (refine zla (.tmp 3) B0 Try.underlying26 Try.size26 ?_) | (refine zsr (.tmp 6) (.tmp 23) (fl 64 (skJ p F G (-1) 8)) B3 Try.size26 ?_; try simp only [Act.put]))
    obtain ⟨W2, hwo, hzQ⟩ : ∃ v : World, v = (wr.setRow (w.heap.size + 1 + 1 + 1) (zb 512 (fl 64 (skJ p F G (-1) 8)))) ∧ Blk v (w.heap.size) 512 26 (fl 64 (skJ p F G (-1) 8)) ∧ Row v (w.heap.size + 1) 94 (fdC (p : Int) m).toArray ∧ Blk v (w.heap.size + 1 + 1) 512 26 (fl 64 G) ∧ Blk v (w.heap.size + 1 + 1 + 1) 512 26 (fl 64 (skJ p F G (-1) 8)) ∧ Below w.heap.size w v := ⟨_, rfl, (B0.rowOther (by omega)), (B1.rowOther (by omega)), (B2.rowOther (by omega)), (B3.row (fl 64 (skJ p F G (-1) 8))), (zr hb (by omega) _)⟩
    rw [← hwo]
    clear hwo B0 B1 B2 B3 hb
    obtain ⟨B0, B1, B2, B3, hb⟩ := hzQ
    try simp only [Act.put, pA, pB, pC]
    refine bodyPost_ret (results_any rfl _ _ _ 512 _ _ rfl B3 _ Try.underlying26 rfl Try.size26) rfl ⟨by rw [HV.out], hb⟩
end Go.Proofs.Ytdlojnmggogbaaa
end
section
namespace Go.Proofs.Ytdlojnmggogbaaa
open Go.RowKit
set_option linter.unusedVariables false
set_option linter.unusedSimpArgs false
attribute [local irreducible] deg invN dS qS stp stpr quoP resP oneP upP upF hmR mmP shA addK bzD bzU bzW
/-- the rest of a product by the rest of a factor -/
theorem mmP_rest {p d : Nat} {a b m : Nat → Nat} (hp : p = 2 ∨ p = 3 ∨ p = 5 ∨ p = 7) (hb : ∀ k, k < 64 → b k < p) (hm : ∀ k, k < 64 → m k < p) (hmon : mon m d) : ∀ k, k < 64 → mmP p a (resP p b m) m k = mmP p a b m k := by
 have p0 : 0 < p := by omega
 have h0 : 0 ≤ deg m := by rw [hmon.1]; omega
 refine res_same (fun k hk => mmP_lt p0 k (by omega)) (fun k hk => mmP_lt p0 k (by omega)) hmon (by rw [← hmon.1]; exact mmP_deg hp hm h0) (by rw [← hmon.1]; exact mmP_deg hp hm h0) ?_
 refine rm_trans (rm_symm (mmP_rm hp hm h0)) (rm_trans ?_ (mmP_rm hp hm h0))
 exact rm_mz2 (fin_lz _) (fin_lz _) (rm_refl _ _ _) (rm_symm (res_rm hp hb hm h0))
end Go.Proofs.Ytdlojnmggogbaaa
end
section
namespace Go.Proofs.Ytdlojnmggogbaaa
open Go Go.RowKit
set_option linter.unusedVariables false
set_option linter.unusedSimpArgs false
attribute [local irreducible] deg addK strP frI frN mmP pmP resP bzU bzD bzW skA skD
set_option maxRecDepth 100000 in
set_option maxHeartbeats 1600000 in
theorem l03Inverse_any (p : Nat) (m y : Nat → Nat) (w : World) (hpr : p = 2 ∨ p = 3 ∨ p = 5 ∨ p = 7) (lm : ∀ k, k < 64 → m k < p) (h0 : 0 ≤ deg m) (ly : ∀ k, k < 64 → y k < p) :
 Calls Try.prog 181 #[.int .i64 (p : Int), .agg (zb 64 y), .agg (zb 64 m)] w fun e w' => e = .returned (.agg (zb 64 (resP p (bzU p y m) m))) ∧ Below w.heap.size w w' := by
 have HB := Lib.hid (fun W => l01Bezout_any p y m W hpr ly lm (.inr h0))
 have HP := Lib.hid (fun W => l01Mod_any p (bzU p y m) m W hpr (fun k _ => bzU_lt (by omega) k) lm h0)
 clear h0 ly lm
 go_enter Try.func181, Try.ntmps181
 go_upto_region 1 with (fail)
 rw [← z64]
 obtain ⟨W1, hwo⟩ : ∃ v : World, v = (((w.alloc (.cells (zb 64 (y)) 24)).alloc (.cells (zb 64 (m)) 24)).alloc (.cells (zb 64 (fun _ => 0)) 24)) := ⟨_, rfl⟩
 have B0 : Blk W1 (w.heap.size) 64 24 (y) := by subst hwo; have := (((Blk.new w 64 24 (y)).alloc (.cells (zb 64 (m)) 24)).alloc (.cells (zb 64 (fun _ => 0)) 24)); simpa using this
 have B1 : Blk W1 (w.heap.size + 1) 64 24 (m) := by subst hwo; have := ((Blk.new (w.alloc (.cells (zb 64 (y)) 24)) 64 24 (m)).alloc (.cells (zb 64 (fun _ => 0)) 24)); simpa using this
 have B2 : Blk W1 (w.heap.size + 1 + 1) 64 24 (fun _ => 0) := by subst hwo; have := (Blk.new ((w.alloc (.cells (zb 64 (y)) 24)).alloc (.cells (zb 64 (m)) 24)) 64 24 (fun _ => 0)); simpa using this
 have hb : Below w.heap.size w W1 := by subst hwo; exact ((((Below.refl _ _).alloc (Nat.le_refl _) _).alloc (by simp) _).alloc (by simp; omega) _)
 rw [← hwo]
 clear hwo
 have lt_B0 := B0.lt
 have lt_B1 := B1.lt
 have lt_B2 := B2.lt
 go_upto_region 2 with (first | rw [← z64] | (refine zla (.tmp 4) B0 Try.underlying24 Try.size24 ?_) | (refine zla (.tmp 5) B1 Try.underlying24 Try.size24 ?_) | (go_at_call 234; refine (HB.out _).mono ?_; rintro e W2 ⟨rfl, hW2⟩; replace B0 := B0.zw hW2; replace B1 := B1.zw hW2; replace B2 := B2.zw hW2; replace hb := (hb).trans (hW2.mono (hb).size)) | (refine wpList_store_blk rfl 24 (.tmp 7) (.tmp 15) rfl _ 64 (bzD p y m) rfl rfl 24 _ ((((Blk.new W2 64 24 (fun _ => 0)).alloc (.cells (zb 64 (fun _ => 0)) 24)).alloc (.cells (zb 64 (fun _ => 0)) 24))) Try.size24 ?_; try simp only [Act.put]) | (refine wpList_store_blk rfl 24 (.tmp 8) (.tmp 16) rfl _ 64 (bzU p y m) rfl rfl 24 _ ((((show Blk ((W2.alloc (.cells (zb 64 (fun _ => 0)) 24)).alloc (.cells (zb 64 (fun _ => 0)) 24)) (W2.heap.size + 1) 64 24 (fun _ => 0) by have := Blk.new (W2.alloc (.cells (zb 64 (fun _ => 0)) 24)) 64 24 (fun _ => 0); simpa using this).alloc (.cells (zb 64 (fun _ => 0)) 24)).rowOther (by omega))) Try.size24 ?_; try simp only [Act.put]) | (refine wpList_store_blk rfl 24 (.tmp 9) (.tmp 17) rfl _ 64 (bzW p y m) rfl rfl 24 _ ((((show Blk (((W2.alloc (.cells (zb 64 (fun _ => 0)) 24)).alloc (.cells (zb 64 (fun _ => 0)) 24)).alloc (.cells (zb 64 (fun _ => 0)) 24)) (W2.heap.size + 1 + 1) 64 24 (fun _ => 0) by have := Blk.new ((W2.alloc (.cells (zb 64 (fun _ => 0)) 24)).alloc (.cells (zb 64 (fun _ => 0)) 24)) 64 24 (fun _ => 0); simpa using this).rowOther (by omega)).rowOther (by omega))) Try.size24 ?_; try simp only [Act.put]))
 have lt_B0 := B0.lt
 have lt_B1 := B1.lt
 have lt_B2 := B2.lt
 have lhb := hb.size
 obtain ⟨W3, hwo, hzQ⟩ : ∃ v : World, v = ((((((W2.alloc (.cells (zb 64 (fun _ => 0)) 24)).alloc (.cells (zb 64 (fun _ => 0)) 24)).alloc (.cells (zb 64 (fun _ => 0)) 24)).setRow (W2.heap.size) (zb 64 (bzD p y m))).setRow (W2.heap.size + 1) (zb 64 (bzU p y m))).setRow (W2.heap.size + 1 + 1) (zb 64 (bzW p y m))) ∧ Blk v (w.heap.size) 64 24 (y) ∧ Blk v (w.heap.size + 1) 64 24 (m) ∧ Blk v (w.heap.size + 1 + 1) 64 24 (fun _ => 0) ∧ Blk v (W2.heap.size) 64 24 (bzD p y m) ∧ Blk v (W2.heap.size + 1) 64 24 (bzU p y m) ∧ Blk v (W2.heap.size + 1 + 1) 64 24 (bzW p y m) ∧ Below w.heap.size w v := ⟨_, rfl, ((((((B0.alloc (.cells (zb 64 (fun _ => 0)) 24)).alloc (.cells (zb 64 (fun _ => 0)) 24)).alloc (.cells (zb 64 (fun _ => 0)) 24)).rowOther (by omega)).rowOther (by omega)).rowOther (by omega)), ((((((B1.alloc (.cells (zb 64 (fun _ => 0)) 24)).alloc (.cells (zb 64 (fun _ => 0)) 24)).alloc (.cells (zb 64 (fun _ => 0)) 24)).rowOther (by omega)).rowOther (by omega)).rowOther (by omega)), ((((((B2.alloc (.cells (zb 64 (fun _ => 0)) 24)).alloc (.cells (zb 64 (fun _ => 0)) 24)).alloc (.cells (zb 64 (fun _ => 0)) 24)).rowOther (by omega)).rowOther (by omega)).rowOther (by omega)), ((((((Blk.new W2 64 24 (fun _ => 0)).alloc (.cells (zb 64 (fun _ => 0)) 24)).alloc (.cells (zb 64 (fun _ => 0)) 24)).row (bzD p y m)).rowOther (by omega)).rowOther (by omega)), (((((show Blk ((W2.alloc (.cells (zb 64 (fun _ => 0)) 24)).alloc (.cells (zb 64 (fun _ => 0)) 24)) (W2.heap.size + 1) 64 24 (fun _ => 0) by have := Blk.new (W2.alloc (.cells (zb 64 (fun _ => 0)) 24)) 64 24 (fun _ => 0); simpa using this).alloc (.cells (zb 64 (fun _ => 0)) 24)).rowOther (by omega)).row (bzU p y m)).rowOther (by omega)), ((((show Blk (((W2.alloc (.cells (zb 64 (fun _ => 0)) 24)).alloc (.cells (zb 64 (fun _ => 0)) 24)).alloc (.cells (zb 64 (fun _ => 0)) 24)) (W2.heap.size + 1 + 1) 64 24 (fun _ => 0) by have := Blk.new ((W2.alloc (.cells (zb 64 (fun _ => 0)) 24)).alloc (.cells (zb 64 (fun _ => 0)) 24)) 64 24 (fun _ => 0); simpa using this).rowOther (by omega)).rowOther (by omega)).row (bzW p y m)), (zr (zr (zr (((hb.alloc (by have := hb.size; simp; omega) (.cells (zb 64 (fun _ => 0)) 24)).alloc (by have := hb.size; simp; omega) (.cells (zb 64 (fun _ => 0)) 24)).alloc (by have := hb.size; simp; omega) (.cells (zb 64 (fun _ => 0)) 24)) (by omega) _) (by omega) _) (by omega) _)⟩
 rw [← hwo]
 clear hwo B0 B1 B2 hb
 obtain ⟨B0, B1, B2, B3, B4, B5, hb⟩ := hzQ
 obtain ⟨N1, hNN⟩ : ∃ n : Nat, n = W2.heap.size := ⟨_, rfl⟩
 rw [← hNN] at lt_B0 lt_B1 lt_B2 lhb B3 B4 B5 ⊢
 clear hNN
 have zN1_0 := lt_B0
 have zN1_1 := lt_B1
 have zN1_2 := lt_B2
 have zN1 := lhb
 clear lt_B0 lt_B1 lt_B2 lhb
 try simp only [Act.put, pA, pB, pC]
 have lt_B0 := B0.lt
 have lt_B1 := B1.lt
 have lt_B2 := B2.lt
 have lt_B3 := B3.lt
 have lt_B4 := B4.lt
 have lt_B5 := B5.lt
 go_wp2_with (first | rw [← z64] | (refine zla (.tmp 8) B4 Try.underlying24 Try.size24 ?_) | (refine zla (.tmp 5) B1 Try.underlying24 Try.size24 ?_) | (go_at_call 173; refine (HP.out _).mono ?_; rintro e W4 ⟨rfl, hW4⟩; replace B0 := B0.zw hW4; replace B1 := B1.zw hW4; replace B2 := B2.zw hW4; replace B3 := B3.zw hW4; replace B4 := B4.zw hW4; replace B5 := B5.zw hW4; replace hb := (hb).trans (hW4.mono (hb).size)) | (refine zsr (.tmp 6) (.tmp 21) (resP p (bzU p y m) m) B2 Try.size24 ?_; try simp only [Act.put]))
 obtain ⟨W5, hwo, hzQ⟩ : ∃ v : World, v = (W4.setRow (w.heap.size + 1 + 1) (zb 64 (resP p (bzU p y m) m))) ∧ Blk v (w.heap.size) 64 24 (y) ∧ Blk v (w.heap.size + 1) 64 24 (m) ∧ Blk v (w.heap.size + 1 + 1) 64 24 (resP p (bzU p y m) m) ∧ Blk v (N1) 64 24 (bzD p y m) ∧ Blk v (N1 + 1) 64 24 (bzU p y m) ∧ Blk v (N1 + 1 + 1) 64 24 (bzW p y m) ∧ Below w.heap.size w v := ⟨_, rfl, (B0.rowOther (by omega)), (B1.rowOther (by omega)), (B2.row (resP p (bzU p y m) m)), (B3.rowOther (by omega)), (B4.rowOther (by omega)), (B5.rowOther (by omega)), (zr hb (by omega) _)⟩
 rw [← hwo]
 clear hwo B0 B1 B2 B3 B4 B5 hb
 obtain ⟨B0, B1, B2, B3, B4, B5, hb⟩ := hzQ
 try simp only [Act.put, pA, pB, pC]
 refine bodyPost_ret (zrb rfl _ _ _ 64 24 5 _ rfl B2 Try.underlying24 Try.size24) rfl ⟨rfl, hb⟩
set_option maxRecDepth 100000 in
set_option maxHeartbeats 1600000 in
theorem l03Term_any (a : Nat → Nat) (q : Nat) (q8 : q < 8) (w : World) :
 Calls Try.prog 182 #[.agg (zb 64 a), .int .i64 (q : Int)] w fun e w' => e = .returned (.agg (zb 512 (fl 64 (updR (fun _ _ => 0) q a)))) ∧ Below w.heap.size w w' := by
 go_enter Try.func182, Try.ntmps182
 go_upto_region 1 with (fail)
 rw [← zero512]
 obtain ⟨W1, hwo⟩ : ∃ v : World, v = ((w.alloc (.cells (zb 64 (a)) 24)).alloc (.cells (zb 512 (fl 64 (fun _ _ => 0))) 26)) := ⟨_, rfl⟩
 have B0 : Blk W1 (w.heap.size) 64 24 (a) := by subst hwo; have := ((Blk.new w 64 24 (a)).alloc (.cells (zb 512 (fl 64 (fun _ _ => 0))) 26)); simpa using this
 have B1 : Blk W1 (w.heap.size + 1) 512 26 (fl 64 (fun _ _ => 0)) := by subst hwo; have := (Blk.new (w.alloc (.cells (zb 64 (a)) 24)) 512 26 (fl 64 (fun _ _ => 0))); simpa using this
 have hb : Below w.heap.size w W1 := by subst hwo; exact (((Below.refl _ _).alloc (Nat.le_refl _) _).alloc (by simp) _)
 rw [← hwo]
 clear hwo
 have lt_B0 := B0.lt
 have lt_B1 := B1.lt
 go_upto_region 2 with (first | rw [← z64] | rw [← zero512] | (refine wpList_store_blk rfl 26 (.tmp 5) (.tmp 6) rfl _ 512 (fl 64 (fun _ _ => 0)) rfl rfl 26 _ ((Blk.new W1 512 26 (fl 64 (fun _ _ => 0)))) Try.size26 ?_; try simp only [Act.put]))
 have lt_B0 := B0.lt
 have lt_B1 := B1.lt
 have lhb := hb.size
 obtain ⟨W2, hwo, hzQ⟩ : ∃ v : World, v = ((W1.alloc (.cells (zb 512 (fl 64 (fun _ _ => 0))) 26)).setRow (W1.heap.size) (zb 512 (fl 64 (fun _ _ => 0)))) ∧ Blk v (w.heap.size) 64 24 (a) ∧ Blk v (w.heap.size + 1) 512 26 (fl 64 (fun _ _ => 0)) ∧ Blk v (W1.heap.size) 512 26 (fl 64 (fun _ _ => 0)) ∧ Below w.heap.size w v := ⟨_, rfl, ((B0.alloc (.cells (zb 512 (fl 64 (fun _ _ => 0))) 26)).rowOther (by omega)), ((B1.alloc (.cells (zb 512 (fl 64 (fun _ _ => 0))) 26)).rowOther (by omega)), ((Blk.new W1 512 26 (fl 64 (fun _ _ => 0))).row (fl 64 (fun _ _ => 0))), (zr (hb.alloc (by have := hb.size; simp; omega) (.cells (zb 512 (fl 64 (fun _ _ => 0))) 26)) (by omega) _)⟩
 rw [← hwo]
 clear hwo B0 B1 hb
 obtain ⟨B0, B1, B2, hb⟩ := hzQ
 obtain ⟨N1, hNN⟩ : ∃ n : Nat, n = W1.heap.size := ⟨_, rfl⟩
 rw [← hNN] at lt_B0 lt_B1 lhb B2 ⊢
 clear hNN
 have zN1_0 := lt_B0
 have zN1_1 := lt_B1
 have zN1 := lhb
 clear lt_B0 lt_B1 lhb
 try simp only [Act.put, pA, pB, pC]
 have lt_B0 := B0.lt
 have lt_B1 := B1.lt
 have lt_B2 := B2.lt
 go_upto_region 3 with (first | rw [← z64] | (refine zla (.tmp 2) B0 Try.underlying24 Try.size24 ?_) | (refine zss rfl 24 (.tmp 9) (.tmp 8) rfl _ (q) (a) rfl rfl 26 _ (B2) (by omega) Try.size24 ?_; try simp only [Act.put]))
 obtain ⟨W3, hwo, hzQ⟩ : ∃ v : World, v = (W2.setRow (N1) (zb 512 (fl 64 (updR (fun _ _ => 0) q (a))))) ∧ Blk v (w.heap.size) 64 24 (a) ∧ Blk v (w.heap.size + 1) 512 26 (fl 64 (fun _ _ => 0)) ∧ Blk v (N1) 512 26 (fl 64 (updR (fun _ _ => 0) q (a))) ∧ Below w.heap.size w v := ⟨_, rfl, (B0.rowOther (by omega)), (B1.rowOther (by omega)), (B2.row (fl 64 (updR (fun _ _ => 0) q (a)))), (zr hb (by omega) _)⟩
 rw [← hwo]
 clear hwo B0 B1 B2 hb
 obtain ⟨B0, B1, B2, hb⟩ := hzQ
 try simp only [Act.put, pA, pB, pC]
 have lt_B0 := B0.lt
 have lt_B1 := B1.lt
 have lt_B2 := B2.lt
 go_wp2_with (first | rw [← z64] | rw [← zero512] | (refine zla (.tmp 5) B2 Try.underlying26 Try.size26 ?_) | (refine zsr (.tmp 4) (.tmp 10) (fl 64 (updR (fun _ _ => 0) q (a))) B1 Try.size26 ?_; try simp only [Act.put]))
 obtain ⟨W4, hwo, hzQ⟩ : ∃ v : World, v = (W3.setRow (w.heap.size + 1) (zb 512 (fl 64 (updR (fun _ _ => 0) q (a))))) ∧ Blk v (w.heap.size) 64 24 (a) ∧ Blk v (w.heap.size + 1) 512 26 (fl 64 (updR (fun _ _ => 0) q (a))) ∧ Blk v (N1) 512 26 (fl 64 (updR (fun _ _ => 0) q (a))) ∧ Below w.heap.size w v := ⟨_, rfl, (B0.rowOther (by omega)), (B1.row (fl 64 (updR (fun _ _ => 0) q (a)))), (B2.rowOther (by omega)), (zr hb (by omega) _)⟩
 rw [← hwo]
 clear hwo B0 B1 B2 hb
 obtain ⟨B0, B1, B2, hb⟩ := hzQ
 try simp only [Act.put, pA, pB, pC]
 refine bodyPost_ret (results_any rfl _ _ _ 512 _ _ rfl B1 _ Try.underlying26 rfl Try.size26) rfl ⟨rfl, hb⟩
end Go.Proofs.Ytdlojnmggogbaaa
end
section
namespace Go.Proofs.Ytdlojnmggogbaaa
open Go Go.RowKit
set_option linter.unusedVariables false
set_option linter.unusedSimpArgs false
attribute [local irreducible] deg addK okA flV skA skD
theorem ckS_rsk {n : Nat} {m : Nat → Nat} {Fs : List (Nat → Nat → Nat)} {F : Nat → Nat → Nat} (hl : ∀ F, F ∈ Fs → ∀ i, i < 8 → (∀ j, j < 64 → F i j < n) ∧ deg (F i) < deg m) (h : F ∈ Fs) : rsk n m F := fun i hi => hl F h i hi
noncomputable def cdV (p : Int) (m : Nat → Nat) (F G : Nat → Nat → Nat) : Int := if ckS p m [F, G] = 0 then (if skD G < 0 then 5 else 0) else 1
theorem cdV_0 {p : Int} {m : Nat → Nat} {F G : Nat → Nat → Nat} (h : ckS p m [F, G] = 0) (h2 : ¬ skD G < 0) : cdV p m F G = 0 := by unfold cdV; rw [if_pos h, if_neg h2]
theorem cdV_5 {p : Int} {m : Nat → Nat} {F G : Nat → Nat → Nat} (h : ckS p m [F, G] = 0) (h2 : skD G < 0) : cdV p m F G = 5 := by unfold cdV; rw [if_pos h, if_pos h2]
theorem cdV_1 {p : Int} {m : Nat → Nat} {F G : Nat → Nat → Nat} (h : ckS p m [F, G] = 1) : cdV p m F G = 1 := if_neg (by omega)
attribute [irreducible] cdV
set_option maxRecDepth 100000 in
set_option maxHeartbeats 1600000 in
theorem l03Divided_any (p : Int) (m : Nat → Nat) (F G : Nat → Nat → Nat) (hm : byte m) (hF : ∀ i, byte (F i)) (hG : ∀ i, byte (G i)) (w : World) :
 Calls Try.prog 88 #[.int .i64 p, .agg (zb 64 m), .agg (zb 512 (fl 64 F)), .agg (zb 512 (fl 64 G))] w fun e w' => e = .returned (.int .i64 (cdV p m F G)) ∧ Below w.heap.size w w' := by
 go_enter Try.func88, Try.ntmps88
 go_upto_region 1 with (fail)
 obtain ⟨W1, hwo⟩ : ∃ v : World, v = (((w.alloc (.cells (zb 64 (m)) 24)).alloc (.cells (zb 512 (fl 64 F)) 26)).alloc (.cells (zb 512 (fl 64 G)) 26)) := ⟨_, rfl⟩
 have B0 : Blk W1 (w.heap.size) 64 24 (m) := by subst hwo; have := (((Blk.new w 64 24 (m)).alloc (.cells (zb 512 (fl 64 F)) 26)).alloc (.cells (zb 512 (fl 64 G)) 26)); simpa using this
 have B1 : Blk W1 (w.heap.size + 1) 512 26 (fl 64 F) := by subst hwo; have := ((Blk.new (w.alloc (.cells (zb 64 (m)) 24)) 512 26 (fl 64 F)).alloc (.cells (zb 512 (fl 64 G)) 26)); simpa using this
 have B2 : Blk W1 (w.heap.size + 1 + 1) 512 26 (fl 64 G) := by subst hwo; have := (Blk.new ((w.alloc (.cells (zb 64 (m)) 24)).alloc (.cells (zb 512 (fl 64 F)) 26)) 512 26 (fl 64 G)); simpa using this
 have hb : Below w.heap.size w W1 := by subst hwo; exact ((((Below.refl _ _).alloc (Nat.le_refl _) _).alloc (by simp) _).alloc (by simp; omega) _)
 rw [← hwo]
 clear hwo
 rcases ckS_two p m [F, G] with hc | hc
 · by_cases hz : skD G < 0
   · have HV := Lib.hid (cdV_5 hc hz)
     go_upto_region 2 with (first | (refine zla (.tmp 5) B0 Try.underlying24 Try.size24 ?_) | (refine zla (.tmp 6) B1 Try.underlying26 Try.size26 ?_) | (refine zla (.tmp 7) B2 Try.underlying26 Try.size26 ?_) | (refine zbk rfl 159 _ [F, G] rfl 26 Try.underlying159 Try.elem26 (by simp) (by simp) rfl ?_; intro wa hps hba) | (go_at_call 79; refine (l03Code_any _ m hm [F, G] (by simp [hF, hG]) (by simp) _ _ hps).mono ?_; rintro e W2 ⟨rfl, hbb⟩; rw [hc]))
     have hBB : Below W1.heap.size W1 W2 := hba.trans (hbb.mono hba.size)
     replace B0 := B0.zw hBB
     replace B1 := B1.zw hBB
     replace B2 := B2.zw hBB
     replace hb := hb.trans (hBB.mono hb.size)
     clear hBB hba hbb hps
     clear hc
     go_upto_region 3 with (first | (refine zlg rfl 26 (.tmp 7) rfl _ rfl 512 26 _ (B2) _ Try.underlying26 rfl Try.size26 ?_) | (go_at_call 80; refine (l03Deg_any G _).mono ?_; rintro e W3 ⟨rfl, hW3⟩; replace B0 := B0.zw hW3; replace B1 := B1.zw hW3; replace B2 := B2.zw hW3; replace hb := (hb).trans (hW3.mono (hb).size)))
     go_wp2_with fail
     go_ret
     exact ⟨by rw [HV.out]; rfl, hb⟩
   · have HV := Lib.hid (cdV_0 hc hz)
     go_upto_region 2 with (first | (refine zla (.tmp 5) B0 Try.underlying24 Try.size24 ?_) | (refine zla (.tmp 6) B1 Try.underlying26 Try.size26 ?_) | (refine zla (.tmp 7) B2 Try.underlying26 Try.size26 ?_) | (refine zbk rfl 159 _ [F, G] rfl 26 Try.underlying159 Try.elem26 (by simp) (by simp) rfl ?_; intro wa hps hba) | (go_at_call 79; refine (l03Code_any _ m hm [F, G] (by simp [hF, hG]) (by simp) _ _ hps).mono ?_; rintro e W2 ⟨rfl, hbb⟩; rw [hc]))
     have hBB : Below W1.heap.size W1 W2 := hba.trans (hbb.mono hba.size)
     replace B0 := B0.zw hBB
     replace B1 := B1.zw hBB
     replace B2 := B2.zw hBB
     replace hb := hb.trans (hBB.mono hb.size)
     clear hBB hba hbb hps
     clear hc
     go_upto_region 4 with (first | (refine zlg rfl 26 (.tmp 7) rfl _ rfl 512 26 _ (B2) _ Try.underlying26 rfl Try.size26 ?_) | (go_at_call 80; refine (l03Deg_any G _).mono ?_; rintro e W3 ⟨rfl, hW3⟩; replace B0 := B0.zw hW3; replace B1 := B1.zw hW3; replace B2 := B2.zw hW3; replace hb := (hb).trans (hW3.mono (hb).size)))
     go_wp2_with fail
     go_ret
     exact ⟨by rw [HV.out]; rfl, hb⟩
 · have HV := Lib.hid (cdV_1 hc)
   go_upto_region 4 with (first | (refine zla (.tmp 5) B0 Try.underlying24 Try.size24 ?_) | (refine zla (.tmp 6) B1 Try.underlying26 Try.size26 ?_) | (refine zla (.tmp 7) B2 Try.underlying26 Try.size26 ?_) | (refine zbk rfl 159 _ [F, G] rfl 26 Try.underlying159 Try.elem26 (by simp) (by simp) rfl ?_; intro wa hps hba) | (go_at_call 79; refine (l03Code_any _ m hm [F, G] (by simp [hF, hG]) (by simp) _ _ hps).mono ?_; rintro e W2 ⟨rfl, hbb⟩; rw [hc]))
   have hBB : Below W1.heap.size W1 W2 := hba.trans (hbb.mono hba.size)
   replace B0 := B0.zw hBB
   replace B1 := B1.zw hBB
   replace B2 := B2.zw hBB
   replace hb := hb.trans (hBB.mono hb.size)
   clear hBB hba hbb hps
   clear hc
   go_wp2_with fail
   go_ret
   exact ⟨by rw [HV.out]; rfl, hb⟩
end Go.Proofs.Ytdlojnmggogbaaa
end
section
namespace Go.Proofs.Ytdlojnmggogbaaa
open Go.ChangeShapes Go.WideShapes Go.ChangeAt Go.RowKit
section
variable {H : Type} {enc : TypeId × Value → H} {P : Program}
theorem trod_int_to {e : TypeId} {k : IntKind} (he : P.underlying e = some (.int k)) {w : World} (w' : World) {b : Nat} (b' : Nat) {s : Nat → Bool} (s' : Nat → Bool) {h : Bool} (h' : Bool) {m : Nat} {c : List Value} {x : DataW H × List MemPlace}
 (hx : DataW.trod enc P w b s h m e c = some x) : DataW.trod enc P w' b' s' h' m e c = some x := by
 cases m with
 | zero => simp [DataW.trod] at hx
 | succ m =>
  obtain ⟨n, rfl, rfl, hw⟩ := DataW.trod_int he hx
  unfold DataW.trod
  rw [he]
  simp [hw]
theorem trod_int_same {e : TypeId} {k : IntKind} (he : P.underlying e = some (.int k)) (w w' : World) (b b' : Nat) (s s' : Nat → Bool) (h h' : Bool) (m : Nat) (c : List Value) :
 DataW.trod enc P w b s h m e c = DataW.trod enc P w' b' s' h' m e c := by
 cases h1 : DataW.trod enc P w b s h m e c with
 | some x => rw [trod_int_to he w' b' s' h' h1]
 | none =>
  cases h2 : DataW.trod enc P w' b' s' h' m e c with
  | none => rfl
  | some x => rw [trod_int_to he w b s h h2] at h1; cases h1
theorem open_barr {t e : TypeId} {n : Nat} {w : World} {r : Reach} {b0 base : Nat} {spare : Nat → Bool} {held : Bool} {v : Value} {d : DataW H} {p : List MemPlace}
 (ht : P.underlying t = some (.array n e)) (he : P.underlying e = some (.int .u8)) (hC : P.cellsOf t = n) (hCe : P.cellsOf e = 1)
 (hv : Value.okWide P w r b0 t v) (h : DataW.Trod enc P w base spare held t v d p) :
 ∃ f : Nat → Nat, byte f ∧ v = .agg (zb n f) ∧ p = [] ∧ ∀ (w' : World) (base' : Nat) (spare' : Nat → Bool) (held' : Bool), DataW.Trod enc P w' base' spare' held' t v d [] := by
 unfold Value.okWide at hv
 rw [ht] at hv
 obtain ⟨cs, rfl, hsz, _⟩ := hv
 obtain ⟨fuel, hf⟩ := h
 obtain ⟨xs, m, hm, hx, hlen, hxl, hel⟩ := DataW.trod_array ht hf
 subst hm
 have hcs : cs.size = n := by rw [hsz, hC]
 have each : ∀ i, i < n → ∃ k : Nat, k < 256 ∧ cs[i]? = some (.int .u8 (k : Int)) ∧ xs[i]? = some (.lit (.int .u8 (k : Int)), []) := by
  intro i hi
  have h1 := hel i hi
  have hxi : xs[i]? = some (xs[i]'(by omega)) := List.getElem?_eq_getElem (by omega)
  rw [hxi, hCe] at h1
  obtain ⟨z, hz1, hz2, hz3⟩ := DataW.trod_int he h1
  have hb := bounds_u8 hz3
  obtain ⟨k, rfl⟩ := Int.eq_ofNat_of_zero_le hb.1
  refine ⟨k, by omega, ?_, by rw [hxi, hz2]⟩
  have h2 : ((cs.toList.drop (i * 1)).take 1)[0]? = some (.int .u8 (k : Int)) := by
   have h3 : (Value.agg cs).cells.toList = cs.toList := rfl
   rw [← h3, hz1]; rfl
  simpa using h2
 refine ⟨fun i => match cs[i]? with | some (.int _ z) => if i < n then z.toNat else 0 | _ => 0, ?_, ?_, ?_, ?_⟩
 · intro i
   by_cases hi : i < n
   · obtain ⟨k, hk, hc, _⟩ := each i hi
     simp only [hc, hi, if_true, Int.toNat_natCast]
     exact hk
   · have : cs[i]? = none := Array.getElem?_eq_none (by omega)
     simp [this]
 · congr 1
   apply Array.ext_getElem?
   intro i
   by_cases hi : i < n
   · obtain ⟨k, hk, hc, _⟩ := each i hi
     rw [bcells_get hi]
     simp only [hc, hi, if_true, Int.toNat_natCast]
   · rw [Array.getElem?_eq_none (by omega), Array.getElem?_eq_none (by rw [zbs]; omega)]
 · have hp : p = xs.flatMap (·.2) := by simpa using congrArg Prod.snd hx
   rw [hp]
   rw [List.flatMap_eq_nil_iff]
   intro x hxm
   obtain ⟨i, hi⟩ := List.getElem?_of_mem hxm
   have hin : i < n := by rw [← hxl]; exact (List.getElem?_eq_some_iff.1 hi).1
   obtain ⟨k, _, _, h2⟩ := each i hin
   rw [hi] at h2
   injection h2 with h2
   rw [h2]
 · intro w' base' spare' held'
   refine ⟨m + 1, ?_⟩
   have e1 : DataW.trod enc P w' base' spare' held' (m + 1) t (Value.agg cs).cells.toList = DataW.trod enc P w base spare held (m + 1) t (Value.agg cs).cells.toList := by
    unfold DataW.trod
    rw [ht]
    simp only [trod_int_same he w' w base' base spare' spare held' held m]
   rw [e1, hf]
   have hp : p = xs.flatMap (·.2) := by simpa using congrArg Prod.snd hx
   have : p = [] := by
    rw [hp, List.flatMap_eq_nil_iff]
    intro x hxm
    obtain ⟨i, hi⟩ := List.getElem?_of_mem hxm
    have hin : i < n := by rw [← hxl]; exact (List.getElem?_eq_some_iff.1 hi).1
    obtain ⟨k, _, _, h2⟩ := each i hin
    rw [hi] at h2
    injection h2 with h2
    rw [h2]
   rw [this]
/-- the row's last step where the call has only made new memory, and the row does not say 'again' -/
theorem post_of_below0 {f : Func} {s : ChangeSpec} {apart fresh handsOn : Bool} {W W' : World} {args : Array Value} {v : Value} {ds gs : List (DataW H)} {before pa pv : List MemPlace}
 (hW : DataW.Whole enc P f.params.toList s.vars apart W args.toList ds gs before)
 (hres : ∀ (b : Nat) (sp : Nat → Bool) (hd : Bool), DataW.TrodAll enc P W' b sp hd f.resultTypes.toList (v.resultList f.resultTypes.size) (s.fn H (ds ++ gs)).results [])
 (hargs : ∀ sp : Nat → Bool, (∀ p ∈ before, sp p.block = true) → DataW.TrodAll enc P W' 0 sp true f.params.toList args.toList (s.fn H (ds ++ gs)).args pa)
 (hvars : ∀ sp : Nat → Bool, (∀ p ∈ before, sp p.block = true) → DataW.TrodVars enc P W' sp s.vars (s.fn H (ds ++ gs)).vars pv)
 (hps : before = pa ++ pv) (hb : Below W.heap.size W W') : s.post enc P f apart fresh handsOn false W args v W' := by
 have held : ∀ p ∈ before, (fun b => decide (b < W.heap.size)) p.block = true := fun p hp => by simpa using hW.lt p hp
 refine ⟨ds, gs, before, [], pa, pv, hW, hres _ _ _, hargs _ held, hvars _ held, ?_, fun h => by cases h⟩
 refine World.keptBut_mono (fun p hp => ⟨hp, .inr ?_⟩) (hb.frame (· ∈ before))
 rw [hps, List.mem_append] at hp
 exact hp
end
end Go.Proofs.Ytdlojnmggogbaaa
end
section
namespace Go.Proofs.Ytdlojnmggogbaaa
open Go.ChangeShapes Go.WideShapes Go.ChangeAt Go.RowKit
set_option linter.unusedVariables false
theorem fl_whole (f : Nat → Nat) : fl 64 (fun i j => f (i * 64 + j)) = f := by
 funext k
 unfold fl
 show f (k / 64 * 64 + k % 64) = f k
 congr 1
 omega
section
variable {H : Type} {enc : TypeId × Value → H} {P : Program}
theorem trod_barr_same {e u n : Nat} {k : IntKind} (he : P.underlying e = some (.array n u)) (hu : P.underlying u = some (.int k)) (w w' : World) (b b' : Nat) (s s' : Nat → Bool) (h h' : Bool) (m : Nat) (c : List Value) :
 DataW.trod enc P w b s h m e c = DataW.trod enc P w' b' s' h' m e c := by
 cases m with
 | zero => simp [DataW.trod]
 | succ m =>
  unfold DataW.trod
  rw [he]
  simp only [trod_int_same hu w w' b b' s s' h h' m]
theorem open_bsk {t e u : TypeId} {w : World} {r : Reach} {b0 base : Nat} {spare : Nat → Bool} {held : Bool} {v : Value} {d : DataW H} {p : List MemPlace}
 (ht : P.underlying t = some (.array 8 e)) (he : P.underlying e = some (.array 64 u)) (hu : P.underlying u = some (.int .u8)) (hC : P.cellsOf t = 512) (hCe : P.cellsOf e = 64) (hCu : P.cellsOf u = 1)
 (hv : Value.okWide P w r b0 t v) (h : DataW.Trod enc P w base spare held t v d p) :
 ∃ F : Nat → Nat → Nat, (∀ i, byte (F i)) ∧ v = .agg (zb 512 (fl 64 F)) ∧ p = [] ∧ ∀ (w' : World) (base' : Nat) (spare' : Nat → Bool) (held' : Bool), DataW.Trod enc P w' base' spare' held' t v d [] := by
 unfold Value.okWide at hv
 rw [ht] at hv
 obtain ⟨cs, rfl, hsz, _⟩ := hv
 obtain ⟨fuel, hf⟩ := h
 obtain ⟨xs, m, hm, hx, hlen, hxl, hel⟩ := DataW.trod_array ht hf
 subst hm
 have hcs : cs.size = 512 := by rw [hsz, hC]
 have each : ∀ i, i < 8 → (∃ y, xs[i]? = some (y, [])) ∧ ∀ j, j < 64 → ∃ k : Nat, k < 256 ∧ cs[i * 64 + j]? = some (.int .u8 (k : Int)) := by
  intro i hi
  have h1 := hel i hi
  have hxi : xs[i]? = some (xs[i]'(by omega)) := List.getElem?_eq_getElem (by omega)
  rw [hxi, hCe] at h1
  obtain ⟨ys, m2, hm2, hx2, hlen2, hyl, hel2⟩ := DataW.trod_array he h1
  subst hm2
  have byt : ∀ j, j < 64 → ∃ k : Nat, k < 256 ∧ cs[i * 64 + j]? = some (.int .u8 (k : Int)) ∧ ys[j]? = some (.lit (.int .u8 (k : Int)), []) := by
   intro j hj
   have h3 := hel2 j hj
   have hyj : ys[j]? = some (ys[j]'(by omega)) := List.getElem?_eq_getElem (by omega)
   rw [hyj, hCu] at h3
   obtain ⟨z, hz1, hz2, hz3⟩ := DataW.trod_int hu h3
   have hb := bounds_u8 hz3
   obtain ⟨k, rfl⟩ := Int.eq_ofNat_of_zero_le hb.1
   refine ⟨k, by omega, ?_, by rw [hyj, hz2]⟩
   have h4 : (((((Value.agg cs).cells.toList.drop (i * 64)).take 64).drop (j * 1)).take 1)[0]? = some (.int .u8 (k : Int)) := by
    rw [hz1]; rfl
   have h5 : (Value.agg cs).cells.toList = cs.toList := rfl
   rw [h5] at h4
   simp only [List.getElem?_take, List.getElem?_drop, Nat.mul_one, Nat.add_zero, Nat.lt_add_one, if_true, hj] at h4
   simpa using h4
  refine ⟨⟨(xs[i]'(by omega)).1, ?_⟩, fun j hj => let ⟨k, a, b, _⟩ := byt j hj; ⟨k, a, b⟩⟩
  · rw [hxi]
    congr 1
    refine Prod.ext rfl ?_
    have hp : (xs[i]'(by omega)).2 = ys.flatMap (·.2) := by simpa using congrArg Prod.snd hx2
    show (xs[i]'(by omega)).2 = []
    rw [hp, List.flatMap_eq_nil_iff]
    intro x hxm
    obtain ⟨j, hj⟩ := List.getElem?_of_mem hxm
    have hjn : j < 64 := by rw [← hyl]; exact (List.getElem?_eq_some_iff.1 hj).1
    obtain ⟨k, _, _, h2⟩ := byt j hjn
    rw [hj] at h2
    injection h2 with h2
    rw [h2]
 have hp : p = [] := by
  have hp : p = xs.flatMap (·.2) := by simpa using congrArg Prod.snd hx
  rw [hp, List.flatMap_eq_nil_iff]
  intro x hxm
  obtain ⟨i, hi⟩ := List.getElem?_of_mem hxm
  have hin : i < 8 := by rw [← hxl]; exact (List.getElem?_eq_some_iff.1 hi).1
  obtain ⟨⟨y, h2⟩, _⟩ := each i hin
  rw [hi] at h2
  injection h2 with h2
  rw [h2]
 have cell : ∀ k, k < 512 → ∃ z : Nat, z < 256 ∧ cs[k]? = some (.int .u8 (z : Int)) := by
  intro k hk
  obtain ⟨z, a, b⟩ := (each (k / 64) (by omega)).2 (k % 64) (by omega)
  rw [show k / 64 * 64 + k % 64 = k by omega] at b
  exact ⟨z, a, b⟩
 obtain ⟨f, hf1, hf2⟩ : ∃ f : Nat → Nat, byte f ∧ (Value.agg cs) = .agg (zb 512 f) := by
  refine ⟨fun i => match cs[i]? with | some (.int _ z) => if i < 512 then z.toNat else 0 | _ => 0, ?_, ?_⟩
  · intro i
    by_cases hi : i < 512
    · obtain ⟨k, hk, hc⟩ := cell i hi
      simp only [hc, hi, if_true, Int.toNat_natCast]
      exact hk
    · have : cs[i]? = none := Array.getElem?_eq_none (by omega)
      simp [this]
  · congr 1
    apply Array.ext_getElem?
    intro i
    by_cases hi : i < 512
    · obtain ⟨k, hk, hc⟩ := cell i hi
      rw [bcells_get hi]
      simp only [hc, hi, if_true, Int.toNat_natCast]
    · rw [Array.getElem?_eq_none (by omega), Array.getElem?_eq_none (by rw [zbs]; omega)]
 refine ⟨fun i j => f (i * 64 + j), fun i j => hf1 _, ?_, hp, ?_⟩
 · rw [fl_whole]; exact hf2
 · intro w' base' spare' held'
   refine ⟨m + 1, ?_⟩
   have e1 : DataW.trod enc P w' base' spare' held' (m + 1) t (Value.agg cs).cells.toList = DataW.trod enc P w base spare held (m + 1) t (Value.agg cs).cells.toList := by
    unfold DataW.trod
    rw [ht]
    simp only [trod_barr_same he hu w' w base' base spare' spare held' held m]
   rw [e1, hf, hp]
end
end Go.Proofs.Ytdlojnmggogbaaa
end
section
namespace Go.Proofs.Ytdlojnmggogbaaa
open Go
def cutW : List Char := [Char.ofNat 99, Char.ofNat 117, Char.ofNat 116]
theorem strip_cut (rest : List (List Char)) : stripLifts liftWords (cutW :: rest) = ([], cutW :: rest) := by
 have key : ∀ os : List String, (os.all fun o => !(cutW == o.toList)) = true → stripLifts os (cutW :: rest) = ([], cutW :: rest) := by
  intro os
  induction os with
  | nil => intro _; rfl
  | cons o os ih =>
   intro h
   simp only [List.all_cons, Bool.and_eq_true, Bool.not_eq_true'] at h
   unfold stripLifts
   rw [h.1]
   exact ih h.2
 exact key _ (by decide +kernel)
theorem make_cut {P : Program} {rest : List (List Char)} (h : behindMainWord (wordsSigns P.initOrder.toList) = cutW :: rest) : P.make = some .cut := by
 unfold Program.make
 rw [h]
 have e1 : (cutW == "gc".toList || cutW == "spec".toList) = false := by decide +kernel
 have e2 : (cutW == "cut".toList) = true := by decide +kernel
 simp only [e1, e2, Bool.true_or]
 rfl
theorem mayEnter_cut {P : Program} {rest : List (List Char)} (h : behindMainWord (wordsSigns P.initOrder.toList) = cutW :: rest) (h1 : P.laysLater = false) (h2 : P.bearsReflect = false) (h3 : P.doorFits [] = true) : P.mayEnter = true := by
 unfold Program.mayEnter
 rw [h]
 have e2 : (some cutW == some "cut".toList) = true := by decide +kernel
 simp only [strip_cut, h1, h2, h3, List.head?_cons, e2]
 simp
theorem lifts_cut {P : Program} {rest : List (List Char)} (h : behindMainWord (wordsSigns P.initOrder.toList) = cutW :: rest) : P.liftsFinal = false := by
 unfold Program.liftsFinal Program.headLifts
 rw [h]
 have e2 : (some cutW == some "cut".toList) = true := by decide +kernel
 have e3 : (some cutW == some "carried".toList) = false := by decide +kernel
 simp only [strip_cut, List.head?_cons, e2, e3]
 simp
/-- the signs of the head, and its words behind the first three -/
def initSigns : List Nat := [104, 97, 114, 110, 101, 115, 115, 32, 98, 51, 52, 49, 102, 55, 100, 99, 49, 51, 99, 97, 49, 99, 98, 55, 53, 99, 49, 50, 97, 51, 54, 55, 50, 54, 98, 52, 100, 53, 50, 102, 99, 51, 52, 56, 56, 57, 49, 99, 50, 57, 99, 53, 55, 48, 50, 50, 97, 49, 97, 52, 56, 49, 99, 52, 53, 101, 97, 49, 53, 51, 54, 53, 32, 99, 117, 116, 32, 97, 116, 32, 108, 111, 111, 112, 46, 101, 120, 97, 109, 112, 108, 101, 47, 103, 48, 49, 50, 52, 53, 47, 108, 97, 119, 115, 46, 70, 110, 69, 120, 97, 99, 116, 80, 111, 119, 101, 114, 79, 102, 83, 107, 101, 119, 32, 108, 111, 111, 112, 46, 101, 120, 97, 109, 112, 108, 101, 47, 103, 48, 49, 50, 52, 53, 47, 108, 97, 119, 115, 46, 70, 110, 69, 120, 97, 99, 116, 68, 105, 118, 105, 100, 101, 82, 105, 103, 104, 116, 32, 108, 111, 111, 112, 46, 101, 120, 97, 109, 112, 108, 101, 47, 103, 48, 49, 50, 52, 53, 47, 108, 97, 119, 115, 46, 70, 110, 69, 120, 97, 99, 116, 68, 105, 118, 105, 100, 101, 76, 101, 102, 116, 32, 108, 111, 111, 112, 46, 101, 120, 97, 109, 112, 108, 101, 47, 103, 48, 49, 50, 52, 53, 47, 108, 97, 119, 115, 46, 70, 110, 69, 120, 97, 99, 116, 82, 105, 103, 104, 116, 68, 105, 118, 105, 115, 111, 114, 32, 108, 111, 111, 112, 46, 101, 120, 97, 109, 112, 108, 101, 47, 103, 48, 49, 50, 52, 53, 47, 108, 97, 119, 115, 46, 70, 110, 69, 120, 97, 99, 116, 76, 101, 102, 116, 77, 117, 108, 116, 105, 112, 108, 101, 32, 108, 111, 111, 112, 46, 101, 120, 97, 109, 112, 108, 101, 47, 103, 48, 49, 50, 52, 53, 47, 108, 97, 119, 115, 46, 70, 110, 69, 120, 97, 99, 116, 75, 101, 114, 110, 101, 108, 79, 102, 83, 107, 101, 119, 32, 108, 111, 111, 112, 46, 101, 120, 97, 109, 112, 108, 101, 47, 103, 48, 49, 50, 52, 53, 47, 108, 97, 119, 115, 46, 70, 110, 69, 120, 97, 99, 116, 76, 101, 97, 115, 116, 83, 107, 101, 119, 32, 108, 111, 111, 112, 46, 101, 120, 97, 109, 112, 108, 101, 47, 103, 48, 49, 50, 52, 53, 47, 108, 97, 119, 115, 46, 70, 110, 69, 120, 97, 99, 116, 67, 97, 114, 108, 105, 116, 122, 71, 101, 110, 101, 114, 97, 116, 111, 114, 32, 108, 111, 111, 112, 46, 101, 120, 97, 109, 112, 108, 101, 47, 103, 48, 49, 50, 52, 53, 47, 108, 97, 119, 115, 46, 70, 110, 69, 120, 97, 99, 116, 73, 115, 83, 113, 117, 97, 114, 101, 32, 108, 111, 111, 112, 46, 101, 120, 97, 109, 112, 108, 101, 47, 103, 48, 49, 50, 52, 53, 47, 108, 97, 119, 115, 46, 70, 110, 69, 120, 97, 99, 116, 65, 112, 112, 108, 121, 83, 113, 117, 97, 114, 101, 32, 108, 111, 111, 112, 46, 101, 120, 97, 109, 112, 108, 101, 47, 103, 48, 49, 50, 52, 53, 47, 108, 97, 119, 115, 46, 70, 110, 69, 120, 97, 99, 116, 67, 104, 97, 114, 97, 99, 116, 101, 114, 105, 115, 116, 105, 99, 79, 102, 32, 108, 111, 111, 112, 46, 101, 120, 97, 109, 112, 108, 101, 47, 103, 48, 49, 50, 52, 53, 47, 108, 97, 119, 115, 46, 70, 110, 69, 120, 97, 99, 116, 76, 101, 97, 115, 116, 79, 102, 32, 108, 111, 111, 112, 46, 101, 120, 97, 109, 112, 108, 101, 47, 103, 48, 49, 50, 52, 53, 47, 108, 97, 119, 115, 46, 70, 110, 69, 120, 97, 99, 116, 79, 114, 100, 101, 114, 79, 102, 86, 101, 99, 116, 111, 114, 32, 108, 111, 111, 112, 46, 101, 120, 97, 109, 112, 108, 101, 47, 103, 48, 49, 50, 52, 53, 47, 108, 97, 119, 115, 46, 70, 110, 69, 120, 97, 99, 116, 73, 110, 118, 97, 114, 105, 97, 110, 116, 70, 97, 99, 116, 111, 114, 115, 32, 108, 111, 111, 112, 46, 101, 120, 97, 109, 112, 108, 101, 47, 103, 48, 49, 50, 52, 53, 47, 108, 97, 119, 115, 46, 70, 110, 69, 120, 97, 99, 116, 73, 115, 67, 121, 99, 108, 105, 99, 77, 111, 100, 117, 108, 101, 32, 108, 111, 111, 112, 46, 101, 120, 97, 109, 112, 108, 101, 47, 103, 48, 49, 50, 52, 53, 47, 108, 97, 119, 115, 46, 70, 110, 69, 120, 97, 99, 116, 77, 111, 100, 117, 108, 101, 71, 101, 110, 101, 114, 97, 116, 111, 114, 32, 108, 111, 111, 112, 46, 101, 120, 97, 109, 112, 108, 101, 47, 103, 48, 49, 50, 52, 53, 47, 108, 97, 119, 115, 46, 70, 110, 69, 120, 97, 99, 116, 75, 101, 114, 110, 101, 108, 79, 102, 80, 111, 108, 121, 32, 108, 111, 111, 112, 46, 101, 120, 97, 109, 112, 108, 101, 47, 103, 48, 49, 50, 52, 53, 47, 108, 97, 119, 115, 46, 70, 110, 69, 120, 97, 99, 116, 83, 113, 117, 97, 114, 101, 79, 102, 83, 107, 101, 119, 32, 108, 111, 111, 112, 46, 101, 120, 97, 109, 112, 108, 101, 47, 103, 48, 49, 50, 52, 53, 47, 108, 97, 119, 115, 46, 70, 110, 69, 120, 97, 99, 116, 67, 111, 109, 112, 97, 110, 105, 111, 110, 79, 102, 32, 108, 111, 111, 112, 46, 101, 120, 97, 109, 112, 108, 101, 47, 103, 48, 49, 50, 52, 53, 47, 108, 97, 119, 115, 46, 70, 110, 69, 120, 97, 99, 116, 65, 114, 101, 83, 105, 109, 105, 108, 97, 114]
def initRest : List (List Nat) := [[97, 116], [108, 111, 111, 112, 46, 101, 120, 97, 109, 112, 108, 101, 47, 103, 48, 49, 50, 52, 53, 47, 108, 97, 119, 115, 46, 70, 110, 69, 120, 97, 99, 116, 80, 111, 119, 101, 114, 79, 102, 83, 107, 101, 119], [108, 111, 111, 112, 46, 101, 120, 97, 109, 112, 108, 101, 47, 103, 48, 49, 50, 52, 53, 47, 108, 97, 119, 115, 46, 70, 110, 69, 120, 97, 99, 116, 68, 105, 118, 105, 100, 101, 82, 105, 103, 104, 116], [108, 111, 111, 112, 46, 101, 120, 97, 109, 112, 108, 101, 47, 103, 48, 49, 50, 52, 53, 47, 108, 97, 119, 115, 46, 70, 110, 69, 120, 97, 99, 116, 68, 105, 118, 105, 100, 101, 76, 101, 102, 116], [108, 111, 111, 112, 46, 101, 120, 97, 109, 112, 108, 101, 47, 103, 48, 49, 50, 52, 53, 47, 108, 97, 119, 115, 46, 70, 110, 69, 120, 97, 99, 116, 82, 105, 103, 104, 116, 68, 105, 118, 105, 115, 111, 114], [108, 111, 111, 112, 46, 101, 120, 97, 109, 112, 108, 101, 47, 103, 48, 49, 50, 52, 53, 47, 108, 97, 119, 115, 46, 70, 110, 69, 120, 97, 99, 116, 76, 101, 102, 116, 77, 117, 108, 116, 105, 112, 108, 101], [108, 111, 111, 112, 46, 101, 120, 97, 109, 112, 108, 101, 47, 103, 48, 49, 50, 52, 53, 47, 108, 97, 119, 115, 46, 70, 110, 69, 120, 97, 99, 116, 75, 101, 114, 110, 101, 108, 79, 102, 83, 107, 101, 119], [108, 111, 111, 112, 46, 101, 120, 97, 109, 112, 108, 101, 47, 103, 48, 49, 50, 52, 53, 47, 108, 97, 119, 115, 46, 70, 110, 69, 120, 97, 99, 116, 76, 101, 97, 115, 116, 83, 107, 101, 119], [108, 111, 111, 112, 46, 101, 120, 97, 109, 112, 108, 101, 47, 103, 48, 49, 50, 52, 53, 47, 108, 97, 119, 115, 46, 70, 110, 69, 120, 97, 99, 116, 67, 97, 114, 108, 105, 116, 122, 71, 101, 110, 101, 114, 97, 116, 111, 114], [108, 111, 111, 112, 46, 101, 120, 97, 109, 112, 108, 101, 47, 103, 48, 49, 50, 52, 53, 47, 108, 97, 119, 115, 46, 70, 110, 69, 120, 97, 99, 116, 73, 115, 83, 113, 117, 97, 114, 101], [108, 111, 111, 112, 46, 101, 120, 97, 109, 112, 108, 101, 47, 103, 48, 49, 50, 52, 53, 47, 108, 97, 119, 115, 46, 70, 110, 69, 120, 97, 99, 116, 65, 112, 112, 108, 121, 83, 113, 117, 97, 114, 101], [108, 111, 111, 112, 46, 101, 120, 97, 109, 112, 108, 101, 47, 103, 48, 49, 50, 52, 53, 47, 108, 97, 119, 115, 46, 70, 110, 69, 120, 97, 99, 116, 67, 104, 97, 114, 97, 99, 116, 101, 114, 105, 115, 116, 105, 99, 79, 102], [108, 111, 111, 112, 46, 101, 120, 97, 109, 112, 108, 101, 47, 103, 48, 49, 50, 52, 53, 47, 108, 97, 119, 115, 46, 70, 110, 69, 120, 97, 99, 116, 76, 101, 97, 115, 116, 79, 102], [108, 111, 111, 112, 46, 101, 120, 97, 109, 112, 108, 101, 47, 103, 48, 49, 50, 52, 53, 47, 108, 97, 119, 115, 46, 70, 110, 69, 120, 97, 99, 116, 79, 114, 100, 101, 114, 79, 102, 86, 101, 99, 116, 111, 114], [108, 111, 111, 112, 46, 101, 120, 97, 109, 112, 108, 101, 47, 103, 48, 49, 50, 52, 53, 47, 108, 97, 119, 115, 46, 70, 110, 69, 120, 97, 99, 116, 73, 110, 118, 97, 114, 105, 97, 110, 116, 70, 97, 99, 116, 111, 114, 115], [108, 111, 111, 112, 46, 101, 120, 97, 109, 112, 108, 101, 47, 103, 48, 49, 50, 52, 53, 47, 108, 97, 119, 115, 46, 70, 110, 69, 120, 97, 99, 116, 73, 115, 67, 121, 99, 108, 105, 99, 77, 111, 100, 117, 108, 101], [108, 111, 111, 112, 46, 101, 120, 97, 109, 112, 108, 101, 47, 103, 48, 49, 50, 52, 53, 47, 108, 97, 119, 115, 46, 70, 110, 69, 120, 97, 99, 116, 77, 111, 100, 117, 108, 101, 71, 101, 110, 101, 114, 97, 116, 111, 114], [108, 111, 111, 112, 46, 101, 120, 97, 109, 112, 108, 101, 47, 103, 48, 49, 50, 52, 53, 47, 108, 97, 119, 115, 46, 70, 110, 69, 120, 97, 99, 116, 75, 101, 114, 110, 101, 108, 79, 102, 80, 111, 108, 121], [108, 111, 111, 112, 46, 101, 120, 97, 109, 112, 108, 101, 47, 103, 48, 49, 50, 52, 53, 47, 108, 97, 119, 115, 46, 70, 110, 69, 120, 97, 99, 116, 83, 113, 117, 97, 114, 101, 79, 102, 83, 107, 101, 119], [108, 111, 111, 112, 46, 101, 120, 97, 109, 112, 108, 101, 47, 103, 48, 49, 50, 52, 53, 47, 108, 97, 119, 115, 46, 70, 110, 69, 120, 97, 99, 116, 67, 111, 109, 112, 97, 110, 105, 111, 110, 79, 102], [108, 111, 111, 112, 46, 101, 120, 97, 109, 112, 108, 101, 47, 103, 48, 49, 50, 52, 53, 47, 108, 97, 119, 115, 46, 70, 110, 69, 120, 97, 99, 116, 65, 114, 101, 83, 105, 109, 105, 108, 97, 114]]
theorem init_split : behindMainWord (wordsSigns (initSigns.map Char.ofNat)) = cutW :: initRest.map (fun w => w.map Char.ofNat) := by kernel_rfl
theorem init_order : Try.prog.initOrder = String.ofList (initSigns.map Char.ofNat) := by kernel_rfl
theorem init_cut : behindMainWord (wordsSigns Try.prog.initOrder.toList) = cutW :: initRest.map (fun w => w.map Char.ofNat) :=
 (congrArg (fun s : String => behindMainWord (wordsSigns s.toList)) init_order).trans ((congrArg (fun l => behindMainWord (wordsSigns l)) String.toList_ofList).trans init_split)
theorem Try.laysLater : Try.prog.laysLater = false := by kernel_rfl
theorem Try.bearsReflect : Try.prog.bearsReflect = false := by kernel_rfl
theorem Try.doorFits : Try.prog.doorFits [] = true := by kernel_rfl
theorem Try.mayEnter : Try.pinned.checked.prog.mayEnter = true := mayEnter_cut init_cut Try.laysLater Try.bearsReflect Try.doorFits
theorem Try.liftsFinal : Try.pinned.checked.prog.liftsFinal = false := lifts_cut init_cut
theorem Try.make : Try.pinned.checked.prog.make = some .cut := make_cut init_cut
end Go.Proofs.Ytdlojnmggogbaaa
end
