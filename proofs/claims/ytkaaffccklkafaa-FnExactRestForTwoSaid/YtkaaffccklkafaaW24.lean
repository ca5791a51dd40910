/-
  Walks: greatest common divisors behind their checks.
-/
import Derived.Test.YtkaaffccklkafaaW23
namespace Go.Proofs.Ytkaaffccklkafaa
open Go.RowKit
set_option linter.unusedVariables false
set_option linter.unusedSimpArgs false
attribute [local irreducible] deg invN dS qS stp stpr quoP resP oneP bzD bzU bzW bezV twoV
set_option maxRecDepth 100000 in
set_option maxHeartbeats 800000 in
theorem impl_GcdOf_any (p : Int) (f g : Nat → Nat) (hf : byte f) (hg : byte g) (w : World) :
    Calls Try.prog 54 #[.int .i64 p, .agg (bcells 64 f), .agg (bcells 64 g)] w fun e w' => e = .returned (.tuple #[.agg (bcells 64 (bezV p f g).1), .int .i64 (bezV p f g).2.2.2]) ∧ Below w.heap.size w w' := by
  obtain ⟨D, U, X, c, hV⟩ : ∃ D U X c, bezV p f g = (D, U, X, c) := ⟨_, _, _, _, rfl⟩
  have HB := Lib.hid (show ∀ W, Calls Try.prog 52 #[.int .i64 p, .agg (bcells 64 f), .agg (bcells 64 g)] W fun e w' => e = .returned (.tuple #[.agg (bcells 64 D), .agg (bcells 64 U), .agg (bcells 64 X), .int .i64 c]) ∧ Below W.heap.size W w' by
    intro W
    have := impl_BezoutOf_any p f g hf hg W
    rwa [hV] at this)
  rw [hV]
  clear hV
  go_enter Try.func54, Try.ntmps54
  go_upto_region 1 with (fail)
  rw [← zero64]
  obtain ⟨W1, hwo⟩ : ∃ v : World, v = (((w.alloc (.cells (bcells 64 (f)) 25)).alloc (.cells (bcells 64 (g)) 25)).alloc (.cells (bcells 64 fun _ => 0) 25)) := ⟨_, rfl⟩
  have B0 : Blk W1 (w.heap.size) 64 25 (f) := by subst hwo; have := (((Blk.new w 64 25 (f)).alloc (.cells (bcells 64 (g)) 25)).alloc (.cells (bcells 64 fun _ => 0) 25)); simpa using this
  have B1 : Blk W1 (w.heap.size + 1) 64 25 (g) := by subst hwo; have := ((Blk.new (w.alloc (.cells (bcells 64 (f)) 25)) 64 25 (g)).alloc (.cells (bcells 64 fun _ => 0) 25)); simpa using this
  have B2 : Blk W1 (w.heap.size + 1 + 1) 64 25 (fun _ => 0) := by subst hwo; have := (Blk.new ((w.alloc (.cells (bcells 64 (f)) 25)).alloc (.cells (bcells 64 (g)) 25)) 64 25 (fun _ => 0)); simpa using this
  have hb : Below w.heap.size w W1 := by subst hwo; exact ((((Below.refl _ _).alloc (Nat.le_refl _) _).alloc (by simp) _).alloc (by simp; omega) _)
  rw [← hwo]
  clear hwo
  have lt_B0 := B0.lt
  have lt_B1 := B1.lt
  have lt_B2 := B2.lt
  go_upto_region 2 with (first | rw [← zero64] | (refine wpList_load_any rfl 25 (.tmp 4) rfl _ rfl 64 25 _ (B0) _ Try.underlying25 rfl Try.size25 ?_) | (refine wpList_load_any rfl 25 (.tmp 5) rfl _ rfl 64 25 _ (B1) _ Try.underlying25 rfl Try.size25 ?_) | (go_at_call 52; refine (HB.out _).mono ?_; rintro e W2 ⟨rfl, hW2⟩; replace B0 := B0.below hW2 B0.lt; replace B1 := B1.below hW2 B1.lt; replace B2 := B2.below hW2 B2.lt; replace hb := (hb).trans (hW2.mono (hb).size)) | (refine wpList_store_blk rfl 25 (.tmp 8) (.tmp 17) rfl _ 64 (D) rfl rfl 25 _ ((((Blk.new W2 64 25 (fun _ => 0)).alloc (.cells (bcells 64 fun _ => 0) 25)).alloc (.cells (bcells 64 fun _ => 0) 25))) Try.size25 ?_; try simp only [Act.put]) | (refine wpList_store_blk rfl 25 (.tmp 9) (.tmp 18) rfl _ 64 (U) rfl rfl 25 _ ((((show Blk ((W2.alloc (.cells (bcells 64 fun _ => 0) 25)).alloc (.cells (bcells 64 fun _ => 0) 25)) (W2.heap.size + 1) 64 25 (fun _ => 0) by have := Blk.new (W2.alloc (.cells (bcells 64 fun _ => 0) 25)) 64 25 (fun _ => 0); simpa using this).alloc (.cells (bcells 64 fun _ => 0) 25)).rowOther (by omega))) Try.size25 ?_; try simp only [Act.put]) | (refine wpList_store_blk rfl 25 (.tmp 10) (.tmp 19) rfl _ 64 (X) rfl rfl 25 _ ((((show Blk (((W2.alloc (.cells (bcells 64 fun _ => 0) 25)).alloc (.cells (bcells 64 fun _ => 0) 25)).alloc (.cells (bcells 64 fun _ => 0) 25)) (W2.heap.size + 1 + 1) 64 25 (fun _ => 0) by have := Blk.new ((W2.alloc (.cells (bcells 64 fun _ => 0) 25)).alloc (.cells (bcells 64 fun _ => 0) 25)) 64 25 (fun _ => 0); simpa using this).rowOther (by omega)).rowOther (by omega))) Try.size25 ?_; try simp only [Act.put]; go_upto_region 2 with (fail)))
  have lt_B0 := B0.lt
  have lt_B1 := B1.lt
  have lt_B2 := B2.lt
  have lhb := hb.size
  have qB0 : Blk ((((((W2.alloc (.cells (bcells 64 fun _ => 0) 25)).alloc (.cells (bcells 64 fun _ => 0) 25)).alloc (.cells (bcells 64 fun _ => 0) 25)).setRow (W2.heap.size) (bcells 64 (D))).setRow (W2.heap.size + 1) (bcells 64 (U))).setRow (W2.heap.size + 1 + 1) (bcells 64 (X))) (w.heap.size) 64 25 (f) := ((((((B0.alloc (.cells (bcells 64 fun _ => 0) 25)).alloc (.cells (bcells 64 fun _ => 0) 25)).alloc (.cells (bcells 64 fun _ => 0) 25)).rowOther (by omega)).rowOther (by omega)).rowOther (by omega))
  have qB1 : Blk ((((((W2.alloc (.cells (bcells 64 fun _ => 0) 25)).alloc (.cells (bcells 64 fun _ => 0) 25)).alloc (.cells (bcells 64 fun _ => 0) 25)).setRow (W2.heap.size) (bcells 64 (D))).setRow (W2.heap.size + 1) (bcells 64 (U))).setRow (W2.heap.size + 1 + 1) (bcells 64 (X))) (w.heap.size + 1) 64 25 (g) := ((((((B1.alloc (.cells (bcells 64 fun _ => 0) 25)).alloc (.cells (bcells 64 fun _ => 0) 25)).alloc (.cells (bcells 64 fun _ => 0) 25)).rowOther (by omega)).rowOther (by omega)).rowOther (by omega))
  have qB2 : Blk ((((((W2.alloc (.cells (bcells 64 fun _ => 0) 25)).alloc (.cells (bcells 64 fun _ => 0) 25)).alloc (.cells (bcells 64 fun _ => 0) 25)).setRow (W2.heap.size) (bcells 64 (D))).setRow (W2.heap.size + 1) (bcells 64 (U))).setRow (W2.heap.size + 1 + 1) (bcells 64 (X))) (w.heap.size + 1 + 1) 64 25 (fun _ => 0) := ((((((B2.alloc (.cells (bcells 64 fun _ => 0) 25)).alloc (.cells (bcells 64 fun _ => 0) 25)).alloc (.cells (bcells 64 fun _ => 0) 25)).rowOther (by omega)).rowOther (by omega)).rowOther (by omega))
  have qB3 : Blk ((((((W2.alloc (.cells (bcells 64 fun _ => 0) 25)).alloc (.cells (bcells 64 fun _ => 0) 25)).alloc (.cells (bcells 64 fun _ => 0) 25)).setRow (W2.heap.size) (bcells 64 (D))).setRow (W2.heap.size + 1) (bcells 64 (U))).setRow (W2.heap.size + 1 + 1) (bcells 64 (X))) (W2.heap.size) 64 25 (D) := ((((((Blk.new W2 64 25 (fun _ => 0)).alloc (.cells (bcells 64 fun _ => 0) 25)).alloc (.cells (bcells 64 fun _ => 0) 25)).row (D)).rowOther (by omega)).rowOther (by omega))
  have qB4 : Blk ((((((W2.alloc (.cells (bcells 64 fun _ => 0) 25)).alloc (.cells (bcells 64 fun _ => 0) 25)).alloc (.cells (bcells 64 fun _ => 0) 25)).setRow (W2.heap.size) (bcells 64 (D))).setRow (W2.heap.size + 1) (bcells 64 (U))).setRow (W2.heap.size + 1 + 1) (bcells 64 (X))) (W2.heap.size + 1) 64 25 (U) := (((((show Blk ((W2.alloc (.cells (bcells 64 fun _ => 0) 25)).alloc (.cells (bcells 64 fun _ => 0) 25)) (W2.heap.size + 1) 64 25 (fun _ => 0) by have := Blk.new (W2.alloc (.cells (bcells 64 fun _ => 0) 25)) 64 25 (fun _ => 0); simpa using this).alloc (.cells (bcells 64 fun _ => 0) 25)).rowOther (by omega)).row (U)).rowOther (by omega))
  have qB5 : Blk ((((((W2.alloc (.cells (bcells 64 fun _ => 0) 25)).alloc (.cells (bcells 64 fun _ => 0) 25)).alloc (.cells (bcells 64 fun _ => 0) 25)).setRow (W2.heap.size) (bcells 64 (D))).setRow (W2.heap.size + 1) (bcells 64 (U))).setRow (W2.heap.size + 1 + 1) (bcells 64 (X))) (W2.heap.size + 1 + 1) 64 25 (X) := ((((show Blk (((W2.alloc (.cells (bcells 64 fun _ => 0) 25)).alloc (.cells (bcells 64 fun _ => 0) 25)).alloc (.cells (bcells 64 fun _ => 0) 25)) (W2.heap.size + 1 + 1) 64 25 (fun _ => 0) by have := Blk.new ((W2.alloc (.cells (bcells 64 fun _ => 0) 25)).alloc (.cells (bcells 64 fun _ => 0) 25)) 64 25 (fun _ => 0); simpa using this).rowOther (by omega)).rowOther (by omega)).row (X))
  have qhb : Below w.heap.size w ((((((W2.alloc (.cells (bcells 64 fun _ => 0) 25)).alloc (.cells (bcells 64 fun _ => 0) 25)).alloc (.cells (bcells 64 fun _ => 0) 25)).setRow (W2.heap.size) (bcells 64 (D))).setRow (W2.heap.size + 1) (bcells 64 (U))).setRow (W2.heap.size + 1 + 1) (bcells 64 (X))) := (below_row (below_row (below_row (((hb.alloc (by have := hb.size; simp; omega) (.cells (bcells 64 fun _ => 0) 25)).alloc (by have := hb.size; simp; omega) (.cells (bcells 64 fun _ => 0) 25)).alloc (by have := hb.size; simp; omega) (.cells (bcells 64 fun _ => 0) 25)) (by omega) _) (by omega) _) (by omega) _)
  obtain ⟨W3, hwo⟩ : ∃ v : World, v = ((((((W2.alloc (.cells (bcells 64 fun _ => 0) 25)).alloc (.cells (bcells 64 fun _ => 0) 25)).alloc (.cells (bcells 64 fun _ => 0) 25)).setRow (W2.heap.size) (bcells 64 (D))).setRow (W2.heap.size + 1) (bcells 64 (U))).setRow (W2.heap.size + 1 + 1) (bcells 64 (X))) := ⟨_, rfl⟩
  rw [← hwo] at qB0 qB1 qB2 qB3 qB4 qB5 qhb ⊢
  clear hwo
  clear B0 B1 B2 hb
  have B0 := qB0
  have B1 := qB1
  have B2 := qB2
  have B3 := qB3
  have B4 := qB4
  have B5 := qB5
  have hb := qhb
  clear qB0 qB1 qB2 qB3 qB4 qB5 qhb
  obtain ⟨N1, hNN⟩ : ∃ n : Nat, n = W2.heap.size := ⟨_, rfl⟩
  rw [← hNN] at lt_B0 lt_B1 lt_B2 lhb B3 B4 B5 ⊢
  clear hNN
  have zN1_0 := lt_B0
  have zN1_1 := lt_B1
  have zN1_2 := lt_B2
  have zN1 := lhb
  clear lt_B0 lt_B1 lt_B2 lhb
  try simp only [Act.put, List.setIfInBounds_toArray, List.set_cons_zero, List.set_cons_succ]
  have lt_B0 := B0.lt
  have lt_B1 := B1.lt
  have lt_B2 := B2.lt
  have lt_B3 := B3.lt
  have lt_B4 := B4.lt
  have lt_B5 := B5.lt
  go_wp2_with (first | rw [← zero64] | (refine wpList_load_any rfl 25 (.tmp 8) rfl _ rfl 64 25 _ (B3) _ Try.underlying25 rfl Try.size25 ?_) | (refine wpList_store_blk rfl 25 (.tmp 6) (.tmp 21) rfl _ 64 (D) rfl rfl 25 _ (B2) Try.size25 ?_; try simp only [Act.put]; go_wp2_with fail))
  have qB0 : Blk (W3.setRow (w.heap.size + 1 + 1) (bcells 64 (D))) (w.heap.size) 64 25 (f) := (B0.rowOther (by omega))
  have qB1 : Blk (W3.setRow (w.heap.size + 1 + 1) (bcells 64 (D))) (w.heap.size + 1) 64 25 (g) := (B1.rowOther (by omega))
  have qB2 : Blk (W3.setRow (w.heap.size + 1 + 1) (bcells 64 (D))) (w.heap.size + 1 + 1) 64 25 (D) := (B2.row (D))
  have qB3 : Blk (W3.setRow (w.heap.size + 1 + 1) (bcells 64 (D))) (N1) 64 25 (D) := (B3.rowOther (by omega))
  have qB4 : Blk (W3.setRow (w.heap.size + 1 + 1) (bcells 64 (D))) (N1 + 1) 64 25 (U) := (B4.rowOther (by omega))
  have qB5 : Blk (W3.setRow (w.heap.size + 1 + 1) (bcells 64 (D))) (N1 + 1 + 1) 64 25 (X) := (B5.rowOther (by omega))
  have qhb : Below w.heap.size w (W3.setRow (w.heap.size + 1 + 1) (bcells 64 (D))) := (below_row hb (by omega) _)
  obtain ⟨W4, hwo⟩ : ∃ v : World, v = (W3.setRow (w.heap.size + 1 + 1) (bcells 64 (D))) := ⟨_, rfl⟩
  rw [← hwo] at qB0 qB1 qB2 qB3 qB4 qB5 qhb ⊢
  clear hwo
  clear B0 B1 B2 B3 B4 B5 hb
  have B0 := qB0
  have B1 := qB1
  have B2 := qB2
  have B3 := qB3
  have B4 := qB4
  have B5 := qB5
  have hb := qhb
  clear qB0 qB1 qB2 qB3 qB4 qB5 qhb
  try simp only [Act.put, List.setIfInBounds_toArray, List.set_cons_zero, List.set_cons_succ]
  refine bodyPost_ret (results_bt rfl _ _ _ 64 25 5 _ rfl B2 Try.underlying25 Try.size25) rfl ⟨rfl, hb⟩
set_option maxRecDepth 100000 in
set_option maxHeartbeats 800000 in
theorem l01Gcd_any (p : Nat) (f g : Nat → Nat) (w : World) (hpr : p = 2 ∨ p = 3 ∨ p = 5 ∨ p = 7) (lf : ∀ k, k < 64 → f k < p) (lg : ∀ k, k < 64 → g k < p) (hz : ¬ (deg f < 0 ∧ deg g < 0)) :
    Calls Try.prog 166 #[.int .i64 (p : Int), .agg (bcells 64 f), .agg (bcells 64 g)] w fun e w' => e = .returned (.agg (bcells 64 (bzD p f g))) ∧ Below w.heap.size w w' := by
  go_enter Try.func166, Try.ntmps166
  go_upto_region 1 with (fail)
  rw [← zero64]
  obtain ⟨W1, hwo⟩ : ∃ v : World, v = (((w.alloc (.cells (bcells 64 (f)) 25)).alloc (.cells (bcells 64 (g)) 25)).alloc (.cells (bcells 64 fun _ => 0) 25)) := ⟨_, rfl⟩
  have B0 : Blk W1 (w.heap.size) 64 25 (f) := by subst hwo; have := (((Blk.new w 64 25 (f)).alloc (.cells (bcells 64 (g)) 25)).alloc (.cells (bcells 64 fun _ => 0) 25)); simpa using this
  have B1 : Blk W1 (w.heap.size + 1) 64 25 (g) := by subst hwo; have := ((Blk.new (w.alloc (.cells (bcells 64 (f)) 25)) 64 25 (g)).alloc (.cells (bcells 64 fun _ => 0) 25)); simpa using this
  have B2 : Blk W1 (w.heap.size + 1 + 1) 64 25 (fun _ => 0) := by subst hwo; have := (Blk.new ((w.alloc (.cells (bcells 64 (f)) 25)).alloc (.cells (bcells 64 (g)) 25)) 64 25 (fun _ => 0)); simpa using this
  have hb : Below w.heap.size w W1 := by subst hwo; exact ((((Below.refl _ _).alloc (Nat.le_refl _) _).alloc (by simp) _).alloc (by simp; omega) _)
  rw [← hwo]
  clear hwo
  by_cases h1 : deg f < 0
  · have h2 : ¬ deg g < 0 := fun h => hz ⟨h1, h⟩
    go_upto_region 3 with (first | (refine wpList_load_any rfl 25 (.tmp 4) rfl _ rfl 64 25 _ (B0) _ Try.underlying25 rfl Try.size25 ?_) | (go_at_call 151; refine (l01Deg_any _ _).mono ?_; rintro e W2 ⟨rfl, hW2⟩; replace B0 := B0.below hW2 B0.lt; replace B1 := B1.below hW2 B1.lt; replace B2 := B2.below hW2 B2.lt; replace hb := (hb).trans (hW2.mono (hb).size)) | (refine wpList_load_any_g rfl 25 (.tmp 5) rfl _ rfl 64 25 _ (B1) _ Try.underlying25 rfl Try.size25 ?_) | (go_at_call 151; refine (l01Deg_any _ _).mono ?_; rintro e W3 ⟨rfl, hW3⟩; replace B0 := B0.below hW3 B0.lt; replace B1 := B1.below hW3 B1.lt; replace B2 := B2.below hW3 B2.lt; replace hb := (hb).trans (hW3.mono (hb).size)))
    have lt_B0 := B0.lt
    have lt_B1 := B1.lt
    have lt_B2 := B2.lt
    go_upto_region 4 with (first | rw [← zero64] | (refine wpList_load_any rfl 25 (.tmp 4) rfl _ rfl 64 25 _ (B0) _ Try.underlying25 rfl Try.size25 ?_) | (refine wpList_load_any rfl 25 (.tmp 5) rfl _ rfl 64 25 _ (B1) _ Try.underlying25 rfl Try.size25 ?_) | (go_at_call 160; refine (l01Bezout_any p f g _ hpr lf lg (by omega)).mono ?_; rintro e W4 ⟨rfl, hW4⟩; replace B0 := B0.below hW4 B0.lt; replace B1 := B1.below hW4 B1.lt; replace B2 := B2.below hW4 B2.lt; replace hb := (hb).trans (hW4.mono (hb).size)) | (refine wpList_store_blk rfl 25 (.tmp 7) (.tmp 24) rfl _ 64 (bzD p f g) rfl rfl 25 _ ((((Blk.new W4 64 25 (fun _ => 0)).alloc (.cells (bcells 64 fun _ => 0) 25)).alloc (.cells (bcells 64 fun _ => 0) 25))) Try.size25 ?_; try simp only [Act.put]) | (refine wpList_store_blk rfl 25 (.tmp 8) (.tmp 25) rfl _ 64 (bzU p f g) rfl rfl 25 _ ((((show Blk ((W4.alloc (.cells (bcells 64 fun _ => 0) 25)).alloc (.cells (bcells 64 fun _ => 0) 25)) (W4.heap.size + 1) 64 25 (fun _ => 0) by have := Blk.new (W4.alloc (.cells (bcells 64 fun _ => 0) 25)) 64 25 (fun _ => 0); simpa using this).alloc (.cells (bcells 64 fun _ => 0) 25)).rowOther (by omega))) Try.size25 ?_; try simp only [Act.put]) | (refine wpList_store_blk rfl 25 (.tmp 9) (.tmp 26) rfl _ 64 (bzW p f g) rfl rfl 25 _ ((((show Blk (((W4.alloc (.cells (bcells 64 fun _ => 0) 25)).alloc (.cells (bcells 64 fun _ => 0) 25)).alloc (.cells (bcells 64 fun _ => 0) 25)) (W4.heap.size + 1 + 1) 64 25 (fun _ => 0) by have := Blk.new ((W4.alloc (.cells (bcells 64 fun _ => 0) 25)).alloc (.cells (bcells 64 fun _ => 0) 25)) 64 25 (fun _ => 0); simpa using this).rowOther (by omega)).rowOther (by omega))) Try.size25 ?_; try simp only [Act.put]))
    have lt_B0 := B0.lt
    have lt_B1 := B1.lt
    have lt_B2 := B2.lt
    have lhb := hb.size
    have qB0 : Blk ((((((W4.alloc (.cells (bcells 64 fun _ => 0) 25)).alloc (.cells (bcells 64 fun _ => 0) 25)).alloc (.cells (bcells 64 fun _ => 0) 25)).setRow (W4.heap.size) (bcells 64 (bzD p f g))).setRow (W4.heap.size + 1) (bcells 64 (bzU p f g))).setRow (W4.heap.size + 1 + 1) (bcells 64 (bzW p f g))) (w.heap.size) 64 25 (f) := ((((((B0.alloc (.cells (bcells 64 fun _ => 0) 25)).alloc (.cells (bcells 64 fun _ => 0) 25)).alloc (.cells (bcells 64 fun _ => 0) 25)).rowOther (by omega)).rowOther (by omega)).rowOther (by omega))
    have qB1 : Blk ((((((W4.alloc (.cells (bcells 64 fun _ => 0) 25)).alloc (.cells (bcells 64 fun _ => 0) 25)).alloc (.cells (bcells 64 fun _ => 0) 25)).setRow (W4.heap.size) (bcells 64 (bzD p f g))).setRow (W4.heap.size + 1) (bcells 64 (bzU p f g))).setRow (W4.heap.size + 1 + 1) (bcells 64 (bzW p f g))) (w.heap.size + 1) 64 25 (g) := ((((((B1.alloc (.cells (bcells 64 fun _ => 0) 25)).alloc (.cells (bcells 64 fun _ => 0) 25)).alloc (.cells (bcells 64 fun _ => 0) 25)).rowOther (by omega)).rowOther (by omega)).rowOther (by omega))
    have qB2 : Blk ((((((W4.alloc (.cells (bcells 64 fun _ => 0) 25)).alloc (.cells (bcells 64 fun _ => 0) 25)).alloc (.cells (bcells 64 fun _ => 0) 25)).setRow (W4.heap.size) (bcells 64 (bzD p f g))).setRow (W4.heap.size + 1) (bcells 64 (bzU p f g))).setRow (W4.heap.size + 1 + 1) (bcells 64 (bzW p f g))) (w.heap.size + 1 + 1) 64 25 (fun _ => 0) := ((((((B2.alloc (.cells (bcells 64 fun _ => 0) 25)).alloc (.cells (bcells 64 fun _ => 0) 25)).alloc (.cells (bcells 64 fun _ => 0) 25)).rowOther (by omega)).rowOther (by omega)).rowOther (by omega))
    have qB3 : Blk ((((((W4.alloc (.cells (bcells 64 fun _ => 0) 25)).alloc (.cells (bcells 64 fun _ => 0) 25)).alloc (.cells (bcells 64 fun _ => 0) 25)).setRow (W4.heap.size) (bcells 64 (bzD p f g))).setRow (W4.heap.size + 1) (bcells 64 (bzU p f g))).setRow (W4.heap.size + 1 + 1) (bcells 64 (bzW p f g))) (W4.heap.size) 64 25 (bzD p f g) := ((((((Blk.new W4 64 25 (fun _ => 0)).alloc (.cells (bcells 64 fun _ => 0) 25)).alloc (.cells (bcells 64 fun _ => 0) 25)).row (bzD p f g)).rowOther (by omega)).rowOther (by omega))
    have qB4 : Blk ((((((W4.alloc (.cells (bcells 64 fun _ => 0) 25)).alloc (.cells (bcells 64 fun _ => 0) 25)).alloc (.cells (bcells 64 fun _ => 0) 25)).setRow (W4.heap.size) (bcells 64 (bzD p f g))).setRow (W4.heap.size + 1) (bcells 64 (bzU p f g))).setRow (W4.heap.size + 1 + 1) (bcells 64 (bzW p f g))) (W4.heap.size + 1) 64 25 (bzU p f g) := (((((show Blk ((W4.alloc (.cells (bcells 64 fun _ => 0) 25)).alloc (.cells (bcells 64 fun _ => 0) 25)) (W4.heap.size + 1) 64 25 (fun _ => 0) by have := Blk.new (W4.alloc (.cells (bcells 64 fun _ => 0) 25)) 64 25 (fun _ => 0); simpa using this).alloc (.cells (bcells 64 fun _ => 0) 25)).rowOther (by omega)).row (bzU p f g)).rowOther (by omega))
    have qB5 : Blk ((((((W4.alloc (.cells (bcells 64 fun _ => 0) 25)).alloc (.cells (bcells 64 fun _ => 0) 25)).alloc (.cells (bcells 64 fun _ => 0) 25)).setRow (W4.heap.size) (bcells 64 (bzD p f g))).setRow (W4.heap.size + 1) (bcells 64 (bzU p f g))).setRow (W4.heap.size + 1 + 1) (bcells 64 (bzW p f g))) (W4.heap.size + 1 + 1) 64 25 (bzW p f g) := ((((show Blk (((W4.alloc (.cells (bcells 64 fun _ => 0) 25)).alloc (.cells (bcells 64 fun _ => 0) 25)).alloc (.cells (bcells 64 fun _ => 0) 25)) (W4.heap.size + 1 + 1) 64 25 (fun _ => 0) by have := Blk.new ((W4.alloc (.cells (bcells 64 fun _ => 0) 25)).alloc (.cells (bcells 64 fun _ => 0) 25)) 64 25 (fun _ => 0); simpa using this).rowOther (by omega)).rowOther (by omega)).row (bzW p f g))
    have qhb : Below w.heap.size w ((((((W4.alloc (.cells (bcells 64 fun _ => 0) 25)).alloc (.cells (bcells 64 fun _ => 0) 25)).alloc (.cells (bcells 64 fun _ => 0) 25)).setRow (W4.heap.size) (bcells 64 (bzD p f g))).setRow (W4.heap.size + 1) (bcells 64 (bzU p f g))).setRow (W4.heap.size + 1 + 1) (bcells 64 (bzW p f g))) := (below_row (below_row (below_row (((hb.alloc (by have := hb.size; simp; omega) (.cells (bcells 64 fun _ => 0) 25)).alloc (by have := hb.size; simp; omega) (.cells (bcells 64 fun _ => 0) 25)).alloc (by have := hb.size; simp; omega) (.cells (bcells 64 fun _ => 0) 25)) (by omega) _) (by omega) _) (by omega) _)
    obtain ⟨W5, hwo⟩ : ∃ v : World, v = ((((((W4.alloc (.cells (bcells 64 fun _ => 0) 25)).alloc (.cells (bcells 64 fun _ => 0) 25)).alloc (.cells (bcells 64 fun _ => 0) 25)).setRow (W4.heap.size) (bcells 64 (bzD p f g))).setRow (W4.heap.size + 1) (bcells 64 (bzU p f g))).setRow (W4.heap.size + 1 + 1) (bcells 64 (bzW p f g))) := ⟨_, rfl⟩
    rw [← hwo] at qB0 qB1 qB2 qB3 qB4 qB5 qhb ⊢
    clear hwo
    clear B0 B1 B2 hb
    have B0 := qB0
    have B1 := qB1
    have B2 := qB2
    have B3 := qB3
    have B4 := qB4
    have B5 := qB5
    have hb := qhb
    clear qB0 qB1 qB2 qB3 qB4 qB5 qhb
    obtain ⟨N1, hNN⟩ : ∃ n : Nat, n = W4.heap.size := ⟨_, rfl⟩
    rw [← hNN] at lt_B0 lt_B1 lt_B2 lhb B3 B4 B5 ⊢
    clear hNN
    have zN1_0 := lt_B0
    have zN1_1 := lt_B1
    have zN1_2 := lt_B2
    have zN1 := lhb
    clear lt_B0 lt_B1 lt_B2 lhb
    try simp only [Act.put, List.setIfInBounds_toArray, List.set_cons_zero, List.set_cons_succ]
    have lt_B0 := B0.lt
    have lt_B1 := B1.lt
    have lt_B2 := B2.lt
    have lt_B3 := B3.lt
    have lt_B4 := B4.lt
    have lt_B5 := B5.lt
    go_wp2_with (first | rw [← zero64] | (refine wpList_load_any rfl 25 (.tmp 7) rfl _ rfl 64 25 _ (B3) _ Try.underlying25 rfl Try.size25 ?_) | (refine wpList_store_blk rfl 25 (.tmp 6) (.tmp 27) rfl _ 64 (bzD p f g) rfl rfl 25 _ (B2) Try.size25 ?_; try simp only [Act.put]))
    have qB0 : Blk (W5.setRow (w.heap.size + 1 + 1) (bcells 64 (bzD p f g))) (w.heap.size) 64 25 (f) := (B0.rowOther (by omega))
    have qB1 : Blk (W5.setRow (w.heap.size + 1 + 1) (bcells 64 (bzD p f g))) (w.heap.size + 1) 64 25 (g) := (B1.rowOther (by omega))
    have qB2 : Blk (W5.setRow (w.heap.size + 1 + 1) (bcells 64 (bzD p f g))) (w.heap.size + 1 + 1) 64 25 (bzD p f g) := (B2.row (bzD p f g))
    have qB3 : Blk (W5.setRow (w.heap.size + 1 + 1) (bcells 64 (bzD p f g))) (N1) 64 25 (bzD p f g) := (B3.rowOther (by omega))
    have qB4 : Blk (W5.setRow (w.heap.size + 1 + 1) (bcells 64 (bzD p f g))) (N1 + 1) 64 25 (bzU p f g) := (B4.rowOther (by omega))
    have qB5 : Blk (W5.setRow (w.heap.size + 1 + 1) (bcells 64 (bzD p f g))) (N1 + 1 + 1) 64 25 (bzW p f g) := (B5.rowOther (by omega))
    have qhb : Below w.heap.size w (W5.setRow (w.heap.size + 1 + 1) (bcells 64 (bzD p f g))) := (below_row hb (by omega) _)
    obtain ⟨W6, hwo⟩ : ∃ v : World, v = (W5.setRow (w.heap.size + 1 + 1) (bcells 64 (bzD p f g))) := ⟨_, rfl⟩
    rw [← hwo] at qB0 qB1 qB2 qB3 qB4 qB5 qhb ⊢
    clear hwo
    clear B0 B1 B2 B3 B4 B5 hb
    have B0 := qB0
    have B1 := qB1
    have B2 := qB2
    have B3 := qB3
    have B4 := qB4
    have B5 := qB5
    have hb := qhb
    clear qB0 qB1 qB2 qB3 qB4 qB5 qhb
    try simp only [Act.put, List.setIfInBounds_toArray, List.set_cons_zero, List.set_cons_succ]
    refine bodyPost_ret (results_blk rfl _ _ _ 64 25 5 _ rfl B2 Try.underlying25 Try.size25) rfl ⟨rfl, hb⟩
  · have h2 := h1
    go_upto_region 3 with (first | (refine wpList_load_any rfl 25 (.tmp 4) rfl _ rfl 64 25 _ (B0) _ Try.underlying25 rfl Try.size25 ?_) | (go_at_call 151; refine (l01Deg_any _ _).mono ?_; rintro e W2 ⟨rfl, hW2⟩; replace B0 := B0.below hW2 B0.lt; replace B1 := B1.below hW2 B1.lt; replace B2 := B2.below hW2 B2.lt; replace hb := (hb).trans (hW2.mono (hb).size)))
    have lt_B0 := B0.lt
    have lt_B1 := B1.lt
    have lt_B2 := B2.lt
    go_upto_region 4 with (first | rw [← zero64] | (refine wpList_load_any rfl 25 (.tmp 4) rfl _ rfl 64 25 _ (B0) _ Try.underlying25 rfl Try.size25 ?_) | (refine wpList_load_any rfl 25 (.tmp 5) rfl _ rfl 64 25 _ (B1) _ Try.underlying25 rfl Try.size25 ?_) | (go_at_call 160; refine (l01Bezout_any p f g _ hpr lf lg (by omega)).mono ?_; rintro e W3 ⟨rfl, hW3⟩; replace B0 := B0.below hW3 B0.lt; replace B1 := B1.below hW3 B1.lt; replace B2 := B2.below hW3 B2.lt; replace hb := (hb).trans (hW3.mono (hb).size)) | (refine wpList_store_blk rfl 25 (.tmp 7) (.tmp 24) rfl _ 64 (bzD p f g) rfl rfl 25 _ ((((Blk.new W3 64 25 (fun _ => 0)).alloc (.cells (bcells 64 fun _ => 0) 25)).alloc (.cells (bcells 64 fun _ => 0) 25))) Try.size25 ?_; try simp only [Act.put]) | (refine wpList_store_blk rfl 25 (.tmp 8) (.tmp 25) rfl _ 64 (bzU p f g) rfl rfl 25 _ ((((show Blk ((W3.alloc (.cells (bcells 64 fun _ => 0) 25)).alloc (.cells (bcells 64 fun _ => 0) 25)) (W3.heap.size + 1) 64 25 (fun _ => 0) by have := Blk.new (W3.alloc (.cells (bcells 64 fun _ => 0) 25)) 64 25 (fun _ => 0); simpa using this).alloc (.cells (bcells 64 fun _ => 0) 25)).rowOther (by omega))) Try.size25 ?_; try simp only [Act.put]) | (refine wpList_store_blk rfl 25 (.tmp 9) (.tmp 26) rfl _ 64 (bzW p f g) rfl rfl 25 _ ((((show Blk (((W3.alloc (.cells (bcells 64 fun _ => 0) 25)).alloc (.cells (bcells 64 fun _ => 0) 25)).alloc (.cells (bcells 64 fun _ => 0) 25)) (W3.heap.size + 1 + 1) 64 25 (fun _ => 0) by have := Blk.new ((W3.alloc (.cells (bcells 64 fun _ => 0) 25)).alloc (.cells (bcells 64 fun _ => 0) 25)) 64 25 (fun _ => 0); simpa using this).rowOther (by omega)).rowOther (by omega))) Try.size25 ?_; try simp only [Act.put]))
    have lt_B0 := B0.lt
    have lt_B1 := B1.lt
    have lt_B2 := B2.lt
    have lhb := hb.size
    have qB0 : Blk ((((((W3.alloc (.cells (bcells 64 fun _ => 0) 25)).alloc (.cells (bcells 64 fun _ => 0) 25)).alloc (.cells (bcells 64 fun _ => 0) 25)).setRow (W3.heap.size) (bcells 64 (bzD p f g))).setRow (W3.heap.size + 1) (bcells 64 (bzU p f g))).setRow (W3.heap.size + 1 + 1) (bcells 64 (bzW p f g))) (w.heap.size) 64 25 (f) := ((((((B0.alloc (.cells (bcells 64 fun _ => 0) 25)).alloc (.cells (bcells 64 fun _ => 0) 25)).alloc (.cells (bcells 64 fun _ => 0) 25)).rowOther (by omega)).rowOther (by omega)).rowOther (by omega))
    have qB1 : Blk ((((((W3.alloc (.cells (bcells 64 fun _ => 0) 25)).alloc (.cells (bcells 64 fun _ => 0) 25)).alloc (.cells (bcells 64 fun _ => 0) 25)).setRow (W3.heap.size) (bcells 64 (bzD p f g))).setRow (W3.heap.size + 1) (bcells 64 (bzU p f g))).setRow (W3.heap.size + 1 + 1) (bcells 64 (bzW p f g))) (w.heap.size + 1) 64 25 (g) := ((((((B1.alloc (.cells (bcells 64 fun _ => 0) 25)).alloc (.cells (bcells 64 fun _ => 0) 25)).alloc (.cells (bcells 64 fun _ => 0) 25)).rowOther (by omega)).rowOther (by omega)).rowOther (by omega))
    have qB2 : Blk ((((((W3.alloc (.cells (bcells 64 fun _ => 0) 25)).alloc (.cells (bcells 64 fun _ => 0) 25)).alloc (.cells (bcells 64 fun _ => 0) 25)).setRow (W3.heap.size) (bcells 64 (bzD p f g))).setRow (W3.heap.size + 1) (bcells 64 (bzU p f g))).setRow (W3.heap.size + 1 + 1) (bcells 64 (bzW p f g))) (w.heap.size + 1 + 1) 64 25 (fun _ => 0) := ((((((B2.alloc (.cells (bcells 64 fun _ => 0) 25)).alloc (.cells (bcells 64 fun _ => 0) 25)).alloc (.cells (bcells 64 fun _ => 0) 25)).rowOther (by omega)).rowOther (by omega)).rowOther (by omega))
    have qB3 : Blk ((((((W3.alloc (.cells (bcells 64 fun _ => 0) 25)).alloc (.cells (bcells 64 fun _ => 0) 25)).alloc (.cells (bcells 64 fun _ => 0) 25)).setRow (W3.heap.size) (bcells 64 (bzD p f g))).setRow (W3.heap.size + 1) (bcells 64 (bzU p f g))).setRow (W3.heap.size + 1 + 1) (bcells 64 (bzW p f g))) (W3.heap.size) 64 25 (bzD p f g) := ((((((Blk.new W3 64 25 (fun _ => 0)).alloc (.cells (bcells 64 fun _ => 0) 25)).alloc (.cells (bcells 64 fun _ => 0) 25)).row (bzD p f g)).rowOther (by omega)).rowOther (by omega))
    have qB4 : Blk ((((((W3.alloc (.cells (bcells 64 fun _ => 0) 25)).alloc (.cells (bcells 64 fun _ => 0) 25)).alloc (.cells (bcells 64 fun _ => 0) 25)).setRow (W3.heap.size) (bcells 64 (bzD p f g))).setRow (W3.heap.size + 1) (bcells 64 (bzU p f g))).setRow (W3.heap.size + 1 + 1) (bcells 64 (bzW p f g))) (W3.heap.size + 1) 64 25 (bzU p f g) := (((((show Blk ((W3.alloc (.cells (bcells 64 fun _ => 0) 25)).alloc (.cells (bcells 64 fun _ => 0) 25)) (W3.heap.size + 1) 64 25 (fun _ => 0) by have := Blk.new (W3.alloc (.cells (bcells 64 fun _ => 0) 25)) 64 25 (fun _ => 0); simpa using this).alloc (.cells (bcells 64 fun _ => 0) 25)).rowOther (by omega)).row (bzU p f g)).rowOther (by omega))
    have qB5 : Blk ((((((W3.alloc (.cells (bcells 64 fun _ => 0) 25)).alloc (.cells (bcells 64 fun _ => 0) 25)).alloc (.cells (bcells 64 fun _ => 0) 25)).setRow (W3.heap.size) (bcells 64 (bzD p f g))).setRow (W3.heap.size + 1) (bcells 64 (bzU p f g))).setRow (W3.heap.size + 1 + 1) (bcells 64 (bzW p f g))) (W3.heap.size + 1 + 1) 64 25 (bzW p f g) := ((((show Blk (((W3.alloc (.cells (bcells 64 fun _ => 0) 25)).alloc (.cells (bcells 64 fun _ => 0) 25)).alloc (.cells (bcells 64 fun _ => 0) 25)) (W3.heap.size + 1 + 1) 64 25 (fun _ => 0) by have := Blk.new ((W3.alloc (.cells (bcells 64 fun _ => 0) 25)).alloc (.cells (bcells 64 fun _ => 0) 25)) 64 25 (fun _ => 0); simpa using this).rowOther (by omega)).rowOther (by omega)).row (bzW p f g))
    have qhb : Below w.heap.size w ((((((W3.alloc (.cells (bcells 64 fun _ => 0) 25)).alloc (.cells (bcells 64 fun _ => 0) 25)).alloc (.cells (bcells 64 fun _ => 0) 25)).setRow (W3.heap.size) (bcells 64 (bzD p f g))).setRow (W3.heap.size + 1) (bcells 64 (bzU p f g))).setRow (W3.heap.size + 1 + 1) (bcells 64 (bzW p f g))) := (below_row (below_row (below_row (((hb.alloc (by have := hb.size; simp; omega) (.cells (bcells 64 fun _ => 0) 25)).alloc (by have := hb.size; simp; omega) (.cells (bcells 64 fun _ => 0) 25)).alloc (by have := hb.size; simp; omega) (.cells (bcells 64 fun _ => 0) 25)) (by omega) _) (by omega) _) (by omega) _)
    obtain ⟨W4, hwo⟩ : ∃ v : World, v = ((((((W3.alloc (.cells (bcells 64 fun _ => 0) 25)).alloc (.cells (bcells 64 fun _ => 0) 25)).alloc (.cells (bcells 64 fun _ => 0) 25)).setRow (W3.heap.size) (bcells 64 (bzD p f g))).setRow (W3.heap.size + 1) (bcells 64 (bzU p f g))).setRow (W3.heap.size + 1 + 1) (bcells 64 (bzW p f g))) := ⟨_, rfl⟩
    rw [← hwo] at qB0 qB1 qB2 qB3 qB4 qB5 qhb ⊢
    clear hwo
    clear B0 B1 B2 hb
    have B0 := qB0
    have B1 := qB1
    have B2 := qB2
    have B3 := qB3
    have B4 := qB4
    have B5 := qB5
    have hb := qhb
    clear qB0 qB1 qB2 qB3 qB4 qB5 qhb
    obtain ⟨N1, hNN⟩ : ∃ n : Nat, n = W3.heap.size := ⟨_, rfl⟩
    rw [← hNN] at lt_B0 lt_B1 lt_B2 lhb B3 B4 B5 ⊢
    clear hNN
    have zN1_0 := lt_B0
    have zN1_1 := lt_B1
    have zN1_2 := lt_B2
    have zN1 := lhb
    clear lt_B0 lt_B1 lt_B2 lhb
    try simp only [Act.put, List.setIfInBounds_toArray, List.set_cons_zero, List.set_cons_succ]
    have lt_B0 := B0.lt
    have lt_B1 := B1.lt
    have lt_B2 := B2.lt
    have lt_B3 := B3.lt
    have lt_B4 := B4.lt
    have lt_B5 := B5.lt
    go_wp2_with (first | rw [← zero64] | (refine wpList_load_any rfl 25 (.tmp 7) rfl _ rfl 64 25 _ (B3) _ Try.underlying25 rfl Try.size25 ?_) | (refine wpList_store_blk rfl 25 (.tmp 6) (.tmp 27) rfl _ 64 (bzD p f g) rfl rfl 25 _ (B2) Try.size25 ?_; try simp only [Act.put]))
    have qB0 : Blk (W4.setRow (w.heap.size + 1 + 1) (bcells 64 (bzD p f g))) (w.heap.size) 64 25 (f) := (B0.rowOther (by omega))
    have qB1 : Blk (W4.setRow (w.heap.size + 1 + 1) (bcells 64 (bzD p f g))) (w.heap.size + 1) 64 25 (g) := (B1.rowOther (by omega))
    have qB2 : Blk (W4.setRow (w.heap.size + 1 + 1) (bcells 64 (bzD p f g))) (w.heap.size + 1 + 1) 64 25 (bzD p f g) := (B2.row (bzD p f g))
    have qB3 : Blk (W4.setRow (w.heap.size + 1 + 1) (bcells 64 (bzD p f g))) (N1) 64 25 (bzD p f g) := (B3.rowOther (by omega))
    have qB4 : Blk (W4.setRow (w.heap.size + 1 + 1) (bcells 64 (bzD p f g))) (N1 + 1) 64 25 (bzU p f g) := (B4.rowOther (by omega))
    have qB5 : Blk (W4.setRow (w.heap.size + 1 + 1) (bcells 64 (bzD p f g))) (N1 + 1 + 1) 64 25 (bzW p f g) := (B5.rowOther (by omega))
    have qhb : Below w.heap.size w (W4.setRow (w.heap.size + 1 + 1) (bcells 64 (bzD p f g))) := (below_row hb (by omega) _)
    obtain ⟨W5, hwo⟩ : ∃ v : World, v = (W4.setRow (w.heap.size + 1 + 1) (bcells 64 (bzD p f g))) := ⟨_, rfl⟩
    rw [← hwo] at qB0 qB1 qB2 qB3 qB4 qB5 qhb ⊢
    clear hwo
    clear B0 B1 B2 B3 B4 B5 hb
    have B0 := qB0
    have B1 := qB1
    have B2 := qB2
    have B3 := qB3
    have B4 := qB4
    have B5 := qB5
    have hb := qhb
    clear qB0 qB1 qB2 qB3 qB4 qB5 qhb
    try simp only [Act.put, List.setIfInBounds_toArray, List.set_cons_zero, List.set_cons_succ]
    refine bodyPost_ret (results_blk rfl _ _ _ 64 25 5 _ rfl B2 Try.underlying25 Try.size25) rfl ⟨rfl, hb⟩
set_option maxRecDepth 100000 in
set_option maxHeartbeats 800000 in
theorem spec_GcdOf_any (p : Int) (f g : Nat → Nat) (hf : byte f) (hg : byte g) (w : World) :
    Calls Try.prog 69 #[.int .i64 p, .agg (bcells 64 f), .agg (bcells 64 g)] w fun e w' => e = .returned (.tuple #[.agg (bcells 64 (bezV p f g).1), .int .i64 (bezV p f g).2.2.2]) ∧ Below w.heap.size w w' := by
  go_enter Try.func69, Try.ntmps69
  go_upto_region 1 with (fail)
  rw [← zero64]
  obtain ⟨W1, hwo⟩ : ∃ v : World, v = (((w.alloc (.cells (bcells 64 (f)) 25)).alloc (.cells (bcells 64 (g)) 25)).alloc (.cells (bcells 64 fun _ => 0) 25)) := ⟨_, rfl⟩
  have B0 : Blk W1 (w.heap.size) 64 25 (f) := by subst hwo; have := (((Blk.new w 64 25 (f)).alloc (.cells (bcells 64 (g)) 25)).alloc (.cells (bcells 64 fun _ => 0) 25)); simpa using this
  have B1 : Blk W1 (w.heap.size + 1) 64 25 (g) := by subst hwo; have := ((Blk.new (w.alloc (.cells (bcells 64 (f)) 25)) 64 25 (g)).alloc (.cells (bcells 64 fun _ => 0) 25)); simpa using this
  have B2 : Blk W1 (w.heap.size + 1 + 1) 64 25 (fun _ => 0) := by subst hwo; have := (Blk.new ((w.alloc (.cells (bcells 64 (f)) 25)).alloc (.cells (bcells 64 (g)) 25)) 64 25 (fun _ => 0)); simpa using this
  have hb : Below w.heap.size w W1 := by subst hwo; exact ((((Below.refl _ _).alloc (Nat.le_refl _) _).alloc (by simp) _).alloc (by simp; omega) _)
  rw [← hwo]
  clear hwo
  go_upto_region 2 with (first | (refine wpList_load_any rfl 25 (.tmp 4) rfl _ rfl 64 25 _ (B0) _ Try.underlying25 rfl Try.size25 ?_) | (refine wpList_load_any rfl 25 (.tmp 5) rfl _ rfl 64 25 _ (B1) _ Try.underlying25 rfl Try.size25 ?_) | (go_at_call 159; refine (l01Two_any p f g hf hg _).mono ?_; rintro e W2 ⟨rfl, hW2⟩; replace B0 := B0.below hW2 B0.lt; replace B1 := B1.below hW2 B1.lt; replace B2 := B2.below hW2 B2.lt; replace hb := (hb).trans (hW2.mono (hb).size)))
  rcases codeL_two p [f, g] with hc | hc
  · obtain ⟨n, hn, n2, n7⟩ := okP_nat (codeL_zero hc).1
    subst hn
    have lf := lt_of_code hc (f := f) (by simp)
    have lg := lt_of_code hc (f := g) (by simp)
    have hpr := prime_of hc
    by_cases hz : deg f < 0 ∧ deg g < 0
    · have HV := Lib.hid (bezV_zero hc hz)
      rw [twoV_zero hc hz]
      clear hc
      go_upto_region 3 with (fail)
      have lt_B0 := B0.lt
      have lt_B1 := B1.lt
      have lt_B2 := B2.lt
      go_wp2_with (first | rw [← zero64] | (refine wpList_store_blk rfl 25 (.tmp 6) (.tmp 15) rfl _ 64 (fun _ => 0) rfl rfl 25 _ (B2) Try.size25 ?_; try simp only [Act.put]; go_wp2_with fail))
      have qB0 : Blk (W2.setRow (w.heap.size + 1 + 1) (bcells 64 (fun _ => 0))) (w.heap.size) 64 25 (f) := (B0.rowOther (by omega))
      have qB1 : Blk (W2.setRow (w.heap.size + 1 + 1) (bcells 64 (fun _ => 0))) (w.heap.size + 1) 64 25 (g) := (B1.rowOther (by omega))
      have qB2 : Blk (W2.setRow (w.heap.size + 1 + 1) (bcells 64 (fun _ => 0))) (w.heap.size + 1 + 1) 64 25 (fun _ => 0) := (B2.row (fun _ => 0))
      have qhb : Below w.heap.size w (W2.setRow (w.heap.size + 1 + 1) (bcells 64 (fun _ => 0))) := (below_row hb (by omega) _)
      obtain ⟨W3, hwo⟩ : ∃ v : World, v = (W2.setRow (w.heap.size + 1 + 1) (bcells 64 (fun _ => 0))) := ⟨_, rfl⟩
      rw [← hwo] at qB0 qB1 qB2 qhb ⊢
      clear hwo
      clear B0 B1 B2 hb
      have B0 := qB0
      have B1 := qB1
      have B2 := qB2
      have hb := qhb
      clear qB0 qB1 qB2 qhb
      try simp only [Act.put, List.setIfInBounds_toArray, List.set_cons_zero, List.set_cons_succ]
      refine bodyPost_ret (results_bt rfl _ _ _ 64 25 5 _ rfl B2 Try.underlying25 Try.size25) rfl ⟨by rw [HV.out]; rfl, hb⟩
    · have HV := Lib.hid (bezV_ok hc hz)
      rw [twoV_ok hc hz]
      clear hc
      go_upto_region 4 with (fail)
      have lt_B0 := B0.lt
      have lt_B1 := B1.lt
      have lt_B2 := B2.lt
      go_wp2_with (first | rw [← zero64] | (refine wpList_load_any rfl 25 (.tmp 4) rfl _ rfl 64 25 _ (B0) _ Try.underlying25 rfl Try.size25 ?_) | (refine wpList_load_any rfl 25 (.tmp 5) rfl _ rfl 64 25 _ (B1) _ Try.underlying25 rfl Try.size25 ?_) | (go_at_call 166; refine (l01Gcd_any n f g _ hpr lf lg hz).mono ?_; rintro e W3 ⟨rfl, hW3⟩; replace B0 := B0.below hW3 B0.lt; replace B1 := B1.below hW3 B1.lt; replace B2 := B2.below hW3 B2.lt; replace hb := (hb).trans (hW3.mono (hb).size)) | (refine wpList_store_blk rfl 25 (.tmp 6) (.tmp 20) rfl _ 64 (bzD n f g) rfl rfl 25 _ (B2) Try.size25 ?_; try simp only [Act.put]; go_wp2_with fail))
      have qB0 : Blk (W3.setRow (w.heap.size + 1 + 1) (bcells 64 (bzD n f g))) (w.heap.size) 64 25 (f) := (B0.rowOther (by omega))
      have qB1 : Blk (W3.setRow (w.heap.size + 1 + 1) (bcells 64 (bzD n f g))) (w.heap.size + 1) 64 25 (g) := (B1.rowOther (by omega))
      have qB2 : Blk (W3.setRow (w.heap.size + 1 + 1) (bcells 64 (bzD n f g))) (w.heap.size + 1 + 1) 64 25 (bzD n f g) := (B2.row (bzD n f g))
      have qhb : Below w.heap.size w (W3.setRow (w.heap.size + 1 + 1) (bcells 64 (bzD n f g))) := (below_row hb (by omega) _)
      obtain ⟨W4, hwo⟩ : ∃ v : World, v = (W3.setRow (w.heap.size + 1 + 1) (bcells 64 (bzD n f g))) := ⟨_, rfl⟩
      rw [← hwo] at qB0 qB1 qB2 qhb ⊢
      clear hwo
      clear B0 B1 B2 hb
      have B0 := qB0
      have B1 := qB1
      have B2 := qB2
      have hb := qhb
      clear qB0 qB1 qB2 qhb
      try simp only [Act.put, List.setIfInBounds_toArray, List.set_cons_zero, List.set_cons_succ]
      refine bodyPost_ret (results_bt rfl _ _ _ 64 25 5 _ rfl B2 Try.underlying25 Try.size25) rfl ⟨by rw [HV.out]; rfl, hb⟩
  · have HV := Lib.hid (bezV_bad hc)
    rw [twoV_bad hc]
    clear hc
    go_upto_region 3 with (fail)
    have lt_B0 := B0.lt
    have lt_B1 := B1.lt
    have lt_B2 := B2.lt
    go_wp2_with (first | rw [← zero64] | (refine wpList_store_blk rfl 25 (.tmp 6) (.tmp 15) rfl _ 64 (fun _ => 0) rfl rfl 25 _ (B2) Try.size25 ?_; try simp only [Act.put]; go_wp2_with fail))
    have qB0 : Blk (W2.setRow (w.heap.size + 1 + 1) (bcells 64 (fun _ => 0))) (w.heap.size) 64 25 (f) := (B0.rowOther (by omega))
    have qB1 : Blk (W2.setRow (w.heap.size + 1 + 1) (bcells 64 (fun _ => 0))) (w.heap.size + 1) 64 25 (g) := (B1.rowOther (by omega))
    have qB2 : Blk (W2.setRow (w.heap.size + 1 + 1) (bcells 64 (fun _ => 0))) (w.heap.size + 1 + 1) 64 25 (fun _ => 0) := (B2.row (fun _ => 0))
    have qhb : Below w.heap.size w (W2.setRow (w.heap.size + 1 + 1) (bcells 64 (fun _ => 0))) := (below_row hb (by omega) _)
    obtain ⟨W3, hwo⟩ : ∃ v : World, v = (W2.setRow (w.heap.size + 1 + 1) (bcells 64 (fun _ => 0))) := ⟨_, rfl⟩
    rw [← hwo] at qB0 qB1 qB2 qhb ⊢
    clear hwo
    clear B0 B1 B2 hb
    have B0 := qB0
    have B1 := qB1
    have B2 := qB2
    have hb := qhb
    clear qB0 qB1 qB2 qhb
    try simp only [Act.put, List.setIfInBounds_toArray, List.set_cons_zero, List.set_cons_succ]
    refine bodyPost_ret (results_bt rfl _ _ _ 64 25 5 _ rfl B2 Try.underlying25 Try.size25) rfl ⟨by rw [HV.out]; rfl, hb⟩
end Go.Proofs.Ytkaaffccklkafaa
