/-
  Walks: greatest common divisors behind their checks.
-/
import Derived.Test.YtbjpkmbhbpcbgaaW23
namespace Go.Proofs.Ytbjpkmbhbpcbgaa
open Go.RowKit
set_option linter.unusedVariables false
set_option linter.unusedSimpArgs false
attribute [local irreducible] deg invN dS qS stp stpr quoP resP oneP bzD bzU bzW bezV twoV
set_option maxRecDepth 100000 in
set_option maxHeartbeats 800000 in
theorem l01Gcd_any (p : Nat) (f g : Nat → Nat) (w : World) (hpr : p = 2 ∨ p = 3 ∨ p = 5 ∨ p = 7) (lf : ∀ k, k < 64 → f k < p) (lg : ∀ k, k < 64 → g k < p) (hz : ¬ (deg f < 0 ∧ deg g < 0)) :
    Calls Try.prog 154 #[.int .i64 (p : Int), .agg (bcells 64 f), .agg (bcells 64 g)] w fun e w' => e = .returned (.agg (bcells 64 (bzD p f g))) ∧ Below w.heap.size w w' := by
  go_enter Try.func154, Try.ntmps154
  go_upto_region 1 with (fail)
  rw [← zero64]
  obtain ⟨W1, hwo⟩ : ∃ v : World, v = (((w.alloc (.cells (bcells 64 (f)) 23)).alloc (.cells (bcells 64 (g)) 23)).alloc (.cells (bcells 64 fun _ => 0) 23)) := ⟨_, rfl⟩
  have B0 : Blk W1 (w.heap.size) 64 23 (f) := by subst hwo; have := (((Blk.new w 64 23 (f)).alloc (.cells (bcells 64 (g)) 23)).alloc (.cells (bcells 64 fun _ => 0) 23)); simpa using this
  have B1 : Blk W1 (w.heap.size + 1) 64 23 (g) := by subst hwo; have := ((Blk.new (w.alloc (.cells (bcells 64 (f)) 23)) 64 23 (g)).alloc (.cells (bcells 64 fun _ => 0) 23)); simpa using this
  have B2 : Blk W1 (w.heap.size + 1 + 1) 64 23 (fun _ => 0) := by subst hwo; have := (Blk.new ((w.alloc (.cells (bcells 64 (f)) 23)).alloc (.cells (bcells 64 (g)) 23)) 64 23 (fun _ => 0)); simpa using this
  have hb : Below w.heap.size w W1 := by subst hwo; exact ((((Below.refl _ _).alloc (Nat.le_refl _) _).alloc (by simp) _).alloc (by simp; omega) _)
  rw [← hwo]
  clear hwo
  by_cases h1 : deg f < 0
  · have h2 : ¬ deg g < 0 := fun h => hz ⟨h1, h⟩
    go_upto_region 3 with (first | (refine wpList_load_any rfl 23 (.tmp 4) rfl _ rfl 64 23 _ (B0) _ Try.underlying23 rfl Try.size23 ?_) | (go_at_call 73; refine (l01Deg_any _ _).mono ?_; rintro e W2 ⟨rfl, hW2⟩; replace B0 := B0.below hW2 B0.lt; replace B1 := B1.below hW2 B1.lt; replace B2 := B2.below hW2 B2.lt; replace hb := (hb).trans (hW2.mono (hb).size)) | (refine wpList_load_any_g rfl 23 (.tmp 5) rfl _ rfl 64 23 _ (B1) _ Try.underlying23 rfl Try.size23 ?_) | (go_at_call 73; refine (l01Deg_any _ _).mono ?_; rintro e W3 ⟨rfl, hW3⟩; replace B0 := B0.below hW3 B0.lt; replace B1 := B1.below hW3 B1.lt; replace B2 := B2.below hW3 B2.lt; replace hb := (hb).trans (hW3.mono (hb).size)))
    have lt_B0 := B0.lt
    have lt_B1 := B1.lt
    have lt_B2 := B2.lt
    go_upto_region 4 with (first | rw [← zero64] | (refine wpList_load_any rfl 23 (.tmp 4) rfl _ rfl 64 23 _ (B0) _ Try.underlying23 rfl Try.size23 ?_) | (refine wpList_load_any rfl 23 (.tmp 5) rfl _ rfl 64 23 _ (B1) _ Try.underlying23 rfl Try.size23 ?_) | (go_at_call 181; refine (l01Bezout_any p f g _ hpr lf lg (by omega)).mono ?_; rintro e W4 ⟨rfl, hW4⟩; replace B0 := B0.below hW4 B0.lt; replace B1 := B1.below hW4 B1.lt; replace B2 := B2.below hW4 B2.lt; replace hb := (hb).trans (hW4.mono (hb).size)) | (refine wpList_store_blk rfl 23 (.tmp 7) (.tmp 24) rfl _ 64 (bzD p f g) rfl rfl 23 _ ((((Blk.new W4 64 23 (fun _ => 0)).alloc (.cells (bcells 64 fun _ => 0) 23)).alloc (.cells (bcells 64 fun _ => 0) 23))) Try.size23 ?_; try simp only [Act.put]) | (refine wpList_store_blk rfl 23 (.tmp 8) (.tmp 25) rfl _ 64 (bzU p f g) rfl rfl 23 _ ((((show Blk ((W4.alloc (.cells (bcells 64 fun _ => 0) 23)).alloc (.cells (bcells 64 fun _ => 0) 23)) (W4.heap.size + 1) 64 23 (fun _ => 0) by have := Blk.new (W4.alloc (.cells (bcells 64 fun _ => 0) 23)) 64 23 (fun _ => 0); simpa using this).alloc (.cells (bcells 64 fun _ => 0) 23)).rowOther (by omega))) Try.size23 ?_; try simp only [Act.put]) | (refine wpList_store_blk rfl 23 (.tmp 9) (.tmp 26) rfl _ 64 (bzW p f g) rfl rfl 23 _ ((((show Blk (((W4.alloc (.cells (bcells 64 fun _ => 0) 23)).alloc (.cells (bcells 64 fun _ => 0) 23)).alloc (.cells (bcells 64 fun _ => 0) 23)) (W4.heap.size + 1 + 1) 64 23 (fun _ => 0) by have := Blk.new ((W4.alloc (.cells (bcells 64 fun _ => 0) 23)).alloc (.cells (bcells 64 fun _ => 0) 23)) 64 23 (fun _ => 0); simpa using this).rowOther (by omega)).rowOther (by omega))) Try.size23 ?_; try simp only [Act.put]))
    have lt_B0 := B0.lt
    have lt_B1 := B1.lt
    have lt_B2 := B2.lt
    have lhb := hb.size
    have qB0 : Blk ((((((W4.alloc (.cells (bcells 64 fun _ => 0) 23)).alloc (.cells (bcells 64 fun _ => 0) 23)).alloc (.cells (bcells 64 fun _ => 0) 23)).setRow (W4.heap.size) (bcells 64 (bzD p f g))).setRow (W4.heap.size + 1) (bcells 64 (bzU p f g))).setRow (W4.heap.size + 1 + 1) (bcells 64 (bzW p f g))) (w.heap.size) 64 23 (f) := ((((((B0.alloc (.cells (bcells 64 fun _ => 0) 23)).alloc (.cells (bcells 64 fun _ => 0) 23)).alloc (.cells (bcells 64 fun _ => 0) 23)).rowOther (by omega)).rowOther (by omega)).rowOther (by omega))
    have qB1 : Blk ((((((W4.alloc (.cells (bcells 64 fun _ => 0) 23)).alloc (.cells (bcells 64 fun _ => 0) 23)).alloc (.cells (bcells 64 fun _ => 0) 23)).setRow (W4.heap.size) (bcells 64 (bzD p f g))).setRow (W4.heap.size + 1) (bcells 64 (bzU p f g))).setRow (W4.heap.size + 1 + 1) (bcells 64 (bzW p f g))) (w.heap.size + 1) 64 23 (g) := ((((((B1.alloc (.cells (bcells 64 fun _ => 0) 23)).alloc (.cells (bcells 64 fun _ => 0) 23)).alloc (.cells (bcells 64 fun _ => 0) 23)).rowOther (by omega)).rowOther (by omega)).rowOther (by omega))
    have qB2 : Blk ((((((W4.alloc (.cells (bcells 64 fun _ => 0) 23)).alloc (.cells (bcells 64 fun _ => 0) 23)).alloc (.cells (bcells 64 fun _ => 0) 23)).setRow (W4.heap.size) (bcells 64 (bzD p f g))).setRow (W4.heap.size + 1) (bcells 64 (bzU p f g))).setRow (W4.heap.size + 1 + 1) (bcells 64 (bzW p f g))) (w.heap.size + 1 + 1) 64 23 (fun _ => 0) := ((((((B2.alloc (.cells (bcells 64 fun _ => 0) 23)).alloc (.cells (bcells 64 fun _ => 0) 23)).alloc (.cells (bcells 64 fun _ => 0) 23)).rowOther (by omega)).rowOther (by omega)).rowOther (by omega))
    have qB3 : Blk ((((((W4.alloc (.cells (bcells 64 fun _ => 0) 23)).alloc (.cells (bcells 64 fun _ => 0) 23)).alloc (.cells (bcells 64 fun _ => 0) 23)).setRow (W4.heap.size) (bcells 64 (bzD p f g))).setRow (W4.heap.size + 1) (bcells 64 (bzU p f g))).setRow (W4.heap.size + 1 + 1) (bcells 64 (bzW p f g))) (W4.heap.size) 64 23 (bzD p f g) := ((((((Blk.new W4 64 23 (fun _ => 0)).alloc (.cells (bcells 64 fun _ => 0) 23)).alloc (.cells (bcells 64 fun _ => 0) 23)).row (bzD p f g)).rowOther (by omega)).rowOther (by omega))
    have qB4 : Blk ((((((W4.alloc (.cells (bcells 64 fun _ => 0) 23)).alloc (.cells (bcells 64 fun _ => 0) 23)).alloc (.cells (bcells 64 fun _ => 0) 23)).setRow (W4.heap.size) (bcells 64 (bzD p f g))).setRow (W4.heap.size + 1) (bcells 64 (bzU p f g))).setRow (W4.heap.size + 1 + 1) (bcells 64 (bzW p f g))) (W4.heap.size + 1) 64 23 (bzU p f g) := (((((show Blk ((W4.alloc (.cells (bcells 64 fun _ => 0) 23)).alloc (.cells (bcells 64 fun _ => 0) 23)) (W4.heap.size + 1) 64 23 (fun _ => 0) by have := Blk.new (W4.alloc (.cells (bcells 64 fun _ => 0) 23)) 64 23 (fun _ => 0); simpa using this).alloc (.cells (bcells 64 fun _ => 0) 23)).rowOther (by omega)).row (bzU p f g)).rowOther (by omega))
    have qB5 : Blk ((((((W4.alloc (.cells (bcells 64 fun _ => 0) 23)).alloc (.cells (bcells 64 fun _ => 0) 23)).alloc (.cells (bcells 64 fun _ => 0) 23)).setRow (W4.heap.size) (bcells 64 (bzD p f g))).setRow (W4.heap.size + 1) (bcells 64 (bzU p f g))).setRow (W4.heap.size + 1 + 1) (bcells 64 (bzW p f g))) (W4.heap.size + 1 + 1) 64 23 (bzW p f g) := ((((show Blk (((W4.alloc (.cells (bcells 64 fun _ => 0) 23)).alloc (.cells (bcells 64 fun _ => 0) 23)).alloc (.cells (bcells 64 fun _ => 0) 23)) (W4.heap.size + 1 + 1) 64 23 (fun _ => 0) by have := Blk.new ((W4.alloc (.cells (bcells 64 fun _ => 0) 23)).alloc (.cells (bcells 64 fun _ => 0) 23)) 64 23 (fun _ => 0); simpa using this).rowOther (by omega)).rowOther (by omega)).row (bzW p f g))
    have qhb : Below w.heap.size w ((((((W4.alloc (.cells (bcells 64 fun _ => 0) 23)).alloc (.cells (bcells 64 fun _ => 0) 23)).alloc (.cells (bcells 64 fun _ => 0) 23)).setRow (W4.heap.size) (bcells 64 (bzD p f g))).setRow (W4.heap.size + 1) (bcells 64 (bzU p f g))).setRow (W4.heap.size + 1 + 1) (bcells 64 (bzW p f g))) := (below_row (below_row (below_row (((hb.alloc (by have := hb.size; simp; omega) (.cells (bcells 64 fun _ => 0) 23)).alloc (by have := hb.size; simp; omega) (.cells (bcells 64 fun _ => 0) 23)).alloc (by have := hb.size; simp; omega) (.cells (bcells 64 fun _ => 0) 23)) (by omega) _) (by omega) _) (by omega) _)
    obtain ⟨W5, hwo⟩ : ∃ v : World, v = ((((((W4.alloc (.cells (bcells 64 fun _ => 0) 23)).alloc (.cells (bcells 64 fun _ => 0) 23)).alloc (.cells (bcells 64 fun _ => 0) 23)).setRow (W4.heap.size) (bcells 64 (bzD p f g))).setRow (W4.heap.size + 1) (bcells 64 (bzU p f g))).setRow (W4.heap.size + 1 + 1) (bcells 64 (bzW p f g))) := ⟨_, rfl⟩
    rw [← hwo] at qB0 qB1 qB2 qB3 qB4 qB5 qhb ⊢
    clear hwo
    clear B0 B1 B2 hb
    have B0 := qB0
    have B1 := qB1
    have B2 := qB2
    have B3 := qB3
    have B4 := qB4
    have B5 := qB5
    have hb := qhb
    clear qB0 qB1 qB2 qB3 qB4 qB5 qhb
    obtain ⟨N1, hNN⟩ : ∃ n : Nat, n = W4.heap.size := ⟨_, rfl⟩
    rw [← hNN] at lt_B0 lt_B1 lt_B2 lhb B3 B4 B5 ⊢
    clear hNN
    have zN1_0 := lt_B0
    have zN1_1 := lt_B1
    have zN1_2 := lt_B2
    have zN1 := lhb
    clear lt_B0 lt_B1 lt_B2 lhb
    try simp only [Act.put, List.setIfInBounds_toArray, List.set_cons_zero, List.set_cons_succ]
    have lt_B0 := B0.lt
    have lt_B1 := B1.lt
    have lt_B2 := B2.lt
    have lt_B3 := B3.lt
    have lt_B4 := B4.lt
    have lt_B5 := B5.lt
    go_wp2_with (first | rw [← zero64] | (refine wpList_load_any rfl 23 (.tmp 7) rfl _ rfl 64 23 _ (B3) _ Try.underlying23 rfl Try.size23 ?_) | (refine wpList_store_blk rfl 23 (.tmp 6) (.tmp 27) rfl _ 64 (bzD p f g) rfl rfl 23 _ (B2) Try.size23 ?_; try simp only [Act.put]))
    have qB0 : Blk (W5.setRow (w.heap.size + 1 + 1) (bcells 64 (bzD p f g))) (w.heap.size) 64 23 (f) := (B0.rowOther (by omega))
    have qB1 : Blk (W5.setRow (w.heap.size + 1 + 1) (bcells 64 (bzD p f g))) (w.heap.size + 1) 64 23 (g) := (B1.rowOther (by omega))
    have qB2 : Blk (W5.setRow (w.heap.size + 1 + 1) (bcells 64 (bzD p f g))) (w.heap.size + 1 + 1) 64 23 (bzD p f g) := (B2.row (bzD p f g))
    have qB3 : Blk (W5.setRow (w.heap.size + 1 + 1) (bcells 64 (bzD p f g))) (N1) 64 23 (bzD p f g) := (B3.rowOther (by omega))
    have qB4 : Blk (W5.setRow (w.heap.size + 1 + 1) (bcells 64 (bzD p f g))) (N1 + 1) 64 23 (bzU p f g) := (B4.rowOther (by omega))
    have qB5 : Blk (W5.setRow (w.heap.size + 1 + 1) (bcells 64 (bzD p f g))) (N1 + 1 + 1) 64 23 (bzW p f g) := (B5.rowOther (by omega))
    have qhb : Below w.heap.size w (W5.setRow (w.heap.size + 1 + 1) (bcells 64 (bzD p f g))) := (below_row hb (by omega) _)
    obtain ⟨W6, hwo⟩ : ∃ v : World, v = (W5.setRow (w.heap.size + 1 + 1) (bcells 64 (bzD p f g))) := ⟨_, rfl⟩
    rw [← hwo] at qB0 qB1 qB2 qB3 qB4 qB5 qhb ⊢
    clear hwo
    clear B0 B1 B2 B3 B4 B5 hb
    have B0 := qB0
    have B1 := qB1
    have B2 := qB2
    have B3 := qB3
    have B4 := qB4
    have B5 := qB5
    have hb := qhb
    clear qB0 qB1 qB2 qB3 qB4 qB5 qhb
    try simp only [Act.put, List.setIfInBounds_toArray, List.set_cons_zero, List.set_cons_succ]
    refine bodyPost_ret (results_blk rfl _ _ _ 64 23 5 _ rfl B2 Try.underlying23 Try.size23) rfl ⟨rfl, hb⟩
  · have h2 := h1
    go_upto_region 3 with (first | (refine wpList_load_any rfl 23 (.tmp 4) rfl _ rfl 64 23 _ (B0) _ Try.underlying23 rfl Try.size23 ?_) | (go_at_call 73; refine (l01Deg_any _ _).mono ?_; rintro e W2 ⟨rfl, hW2⟩; replace B0 := B0.below hW2 B0.lt; replace B1 := B1.below hW2 B1.lt; replace B2 := B2.below hW2 B2.lt; replace hb := (hb).trans (hW2.mono (hb).size)))
    have lt_B0 := B0.lt
    have lt_B1 := B1.lt
    have lt_B2 := B2.lt
    go_upto_region 4 with (first | rw [← zero64] | (refine wpList_load_any rfl 23 (.tmp 4) rfl _ rfl 64 23 _ (B0) _ Try.underlying23 rfl Try.size23 ?_) | (refine wpList_load_any rfl 23 (.tmp 5) rfl _ rfl 64 23 _ (B1) _ Try.underlying23 rfl Try.size23 ?_) | (go_at_call 181; refine (l01Bezout_any p f g _ hpr lf lg (by omega)).mono ?_; rintro e W3 ⟨rfl, hW3⟩; replace B0 := B0.below hW3 B0.lt; replace B1 := B1.below hW3 B1.lt; replace B2 := B2.below hW3 B2.lt; replace hb := (hb).trans (hW3.mono (hb).size)) | (refine wpList_store_blk rfl 23 (.tmp 7) (.tmp 24) rfl _ 64 (bzD p f g) rfl rfl 23 _ ((((Blk.new W3 64 23 (fun _ => 0)).alloc (.cells (bcells 64 fun _ => 0) 23)).alloc (.cells (bcells 64 fun _ => 0) 23))) Try.size23 ?_; try simp only [Act.put]) | (refine wpList_store_blk rfl 23 (.tmp 8) (.tmp 25) rfl _ 64 (bzU p f g) rfl rfl 23 _ ((((show Blk ((W3.alloc (.cells (bcells 64 fun _ => 0) 23)).alloc (.cells (bcells 64 fun _ => 0) 23)) (W3.heap.size + 1) 64 23 (fun _ => 0) by have := Blk.new (W3.alloc (.cells (bcells 64 fun _ => 0) 23)) 64 23 (fun _ => 0); simpa using this).alloc (.cells (bcells 64 fun _ => 0) 23)).rowOther (by omega))) Try.size23 ?_; try simp only [Act.put]) | (refine wpList_store_blk rfl 23 (.tmp 9) (.tmp 26) rfl _ 64 (bzW p f g) rfl rfl 23 _ ((((show Blk (((W3.alloc (.cells (bcells 64 fun _ => 0) 23)).alloc (.cells (bcells 64 fun _ => 0) 23)).alloc (.cells (bcells 64 fun _ => 0) 23)) (W3.heap.size + 1 + 1) 64 23 (fun _ => 0) by have := Blk.new ((W3.alloc (.cells (bcells 64 fun _ => 0) 23)).alloc (.cells (bcells 64 fun _ => 0) 23)) 64 23 (fun _ => 0); simpa using this).rowOther (by omega)).rowOther (by omega))) Try.size23 ?_; try simp only [Act.put]))
    have lt_B0 := B0.lt
    have lt_B1 := B1.lt
    have lt_B2 := B2.lt
    have lhb := hb.size
    have qB0 : Blk ((((((W3.alloc (.cells (bcells 64 fun _ => 0) 23)).alloc (.cells (bcells 64 fun _ => 0) 23)).alloc (.cells (bcells 64 fun _ => 0) 23)).setRow (W3.heap.size) (bcells 64 (bzD p f g))).setRow (W3.heap.size + 1) (bcells 64 (bzU p f g))).setRow (W3.heap.size + 1 + 1) (bcells 64 (bzW p f g))) (w.heap.size) 64 23 (f) := ((((((B0.alloc (.cells (bcells 64 fun _ => 0) 23)).alloc (.cells (bcells 64 fun _ => 0) 23)).alloc (.cells (bcells 64 fun _ => 0) 23)).rowOther (by omega)).rowOther (by omega)).rowOther (by omega))
    have qB1 : Blk ((((((W3.alloc (.cells (bcells 64 fun _ => 0) 23)).alloc (.cells (bcells 64 fun _ => 0) 23)).alloc (.cells (bcells 64 fun _ => 0) 23)).setRow (W3.heap.size) (bcells 64 (bzD p f g))).setRow (W3.heap.size + 1) (bcells 64 (bzU p f g))).setRow (W3.heap.size + 1 + 1) (bcells 64 (bzW p f g))) (w.heap.size + 1) 64 23 (g) := ((((((B1.alloc (.cells (bcells 64 fun _ => 0) 23)).alloc (.cells (bcells 64 fun _ => 0) 23)).alloc (.cells (bcells 64 fun _ => 0) 23)).rowOther (by omega)).rowOther (by omega)).rowOther (by omega))
    have qB2 : Blk ((((((W3.alloc (.cells (bcells 64 fun _ => 0) 23)).alloc (.cells (bcells 64 fun _ => 0) 23)).alloc (.cells (bcells 64 fun _ => 0) 23)).setRow (W3.heap.size) (bcells 64 (bzD p f g))).setRow (W3.heap.size + 1) (bcells 64 (bzU p f g))).setRow (W3.heap.size + 1 + 1) (bcells 64 (bzW p f g))) (w.heap.size + 1 + 1) 64 23 (fun _ => 0) := ((((((B2.alloc (.cells (bcells 64 fun _ => 0) 23)).alloc (.cells (bcells 64 fun _ => 0) 23)).alloc (.cells (bcells 64 fun _ => 0) 23)).rowOther (by omega)).rowOther (by omega)).rowOther (by omega))
    have qB3 : Blk ((((((W3.alloc (.cells (bcells 64 fun _ => 0) 23)).alloc (.cells (bcells 64 fun _ => 0) 23)).alloc (.cells (bcells 64 fun _ => 0) 23)).setRow (W3.heap.size) (bcells 64 (bzD p f g))).setRow (W3.heap.size + 1) (bcells 64 (bzU p f g))).setRow (W3.heap.size + 1 + 1) (bcells 64 (bzW p f g))) (W3.heap.size) 64 23 (bzD p f g) := ((((((Blk.new W3 64 23 (fun _ => 0)).alloc (.cells (bcells 64 fun _ => 0) 23)).alloc (.cells (bcells 64 fun _ => 0) 23)).row (bzD p f g)).rowOther (by omega)).rowOther (by omega))
    have qB4 : Blk ((((((W3.alloc (.cells (bcells 64 fun _ => 0) 23)).alloc (.cells (bcells 64 fun _ => 0) 23)).alloc (.cells (bcells 64 fun _ => 0) 23)).setRow (W3.heap.size) (bcells 64 (bzD p f g))).setRow (W3.heap.size + 1) (bcells 64 (bzU p f g))).setRow (W3.heap.size + 1 + 1) (bcells 64 (bzW p f g))) (W3.heap.size + 1) 64 23 (bzU p f g) := (((((show Blk ((W3.alloc (.cells (bcells 64 fun _ => 0) 23)).alloc (.cells (bcells 64 fun _ => 0) 23)) (W3.heap.size + 1) 64 23 (fun _ => 0) by have := Blk.new (W3.alloc (.cells (bcells 64 fun _ => 0) 23)) 64 23 (fun _ => 0); simpa using this).alloc (.cells (bcells 64 fun _ => 0) 23)).rowOther (by omega)).row (bzU p f g)).rowOther (by omega))
    have qB5 : Blk ((((((W3.alloc (.cells (bcells 64 fun _ => 0) 23)).alloc (.cells (bcells 64 fun _ => 0) 23)).alloc (.cells (bcells 64 fun _ => 0) 23)).setRow (W3.heap.size) (bcells 64 (bzD p f g))).setRow (W3.heap.size + 1) (bcells 64 (bzU p f g))).setRow (W3.heap.size + 1 + 1) (bcells 64 (bzW p f g))) (W3.heap.size + 1 + 1) 64 23 (bzW p f g) := ((((show Blk (((W3.alloc (.cells (bcells 64 fun _ => 0) 23)).alloc (.cells (bcells 64 fun _ => 0) 23)).alloc (.cells (bcells 64 fun _ => 0) 23)) (W3.heap.size + 1 + 1) 64 23 (fun _ => 0) by have := Blk.new ((W3.alloc (.cells (bcells 64 fun _ => 0) 23)).alloc (.cells (bcells 64 fun _ => 0) 23)) 64 23 (fun _ => 0); simpa using this).rowOther (by omega)).rowOther (by omega)).row (bzW p f g))
    have qhb : Below w.heap.size w ((((((W3.alloc (.cells (bcells 64 fun _ => 0) 23)).alloc (.cells (bcells 64 fun _ => 0) 23)).alloc (.cells (bcells 64 fun _ => 0) 23)).setRow (W3.heap.size) (bcells 64 (bzD p f g))).setRow (W3.heap.size + 1) (bcells 64 (bzU p f g))).setRow (W3.heap.size + 1 + 1) (bcells 64 (bzW p f g))) := (below_row (below_row (below_row (((hb.alloc (by have := hb.size; simp; omega) (.cells (bcells 64 fun _ => 0) 23)).alloc (by have := hb.size; simp; omega) (.cells (bcells 64 fun _ => 0) 23)).alloc (by have := hb.size; simp; omega) (.cells (bcells 64 fun _ => 0) 23)) (by omega) _) (by omega) _) (by omega) _)
    obtain ⟨W4, hwo⟩ : ∃ v : World, v = ((((((W3.alloc (.cells (bcells 64 fun _ => 0) 23)).alloc (.cells (bcells 64 fun _ => 0) 23)).alloc (.cells (bcells 64 fun _ => 0) 23)).setRow (W3.heap.size) (bcells 64 (bzD p f g))).setRow (W3.heap.size + 1) (bcells 64 (bzU p f g))).setRow (W3.heap.size + 1 + 1) (bcells 64 (bzW p f g))) := ⟨_, rfl⟩
    rw [← hwo] at qB0 qB1 qB2 qB3 qB4 qB5 qhb ⊢
    clear hwo
    clear B0 B1 B2 hb
    have B0 := qB0
    have B1 := qB1
    have B2 := qB2
    have B3 := qB3
    have B4 := qB4
    have B5 := qB5
    have hb := qhb
    clear qB0 qB1 qB2 qB3 qB4 qB5 qhb
    obtain ⟨N1, hNN⟩ : ∃ n : Nat, n = W3.heap.size := ⟨_, rfl⟩
    rw [← hNN] at lt_B0 lt_B1 lt_B2 lhb B3 B4 B5 ⊢
    clear hNN
    have zN1_0 := lt_B0
    have zN1_1 := lt_B1
    have zN1_2 := lt_B2
    have zN1 := lhb
    clear lt_B0 lt_B1 lt_B2 lhb
    try simp only [Act.put, List.setIfInBounds_toArray, List.set_cons_zero, List.set_cons_succ]
    have lt_B0 := B0.lt
    have lt_B1 := B1.lt
    have lt_B2 := B2.lt
    have lt_B3 := B3.lt
    have lt_B4 := B4.lt
    have lt_B5 := B5.lt
    go_wp2_with (first | rw [← zero64] | (refine wpList_load_any rfl 23 (.tmp 7) rfl _ rfl 64 23 _ (B3) _ Try.underlying23 rfl Try.size23 ?_) | (refine wpList_store_blk rfl 23 (.tmp 6) (.tmp 27) rfl _ 64 (bzD p f g) rfl rfl 23 _ (B2) Try.size23 ?_; try simp only [Act.put]))
    have qB0 : Blk (W4.setRow (w.heap.size + 1 + 1) (bcells 64 (bzD p f g))) (w.heap.size) 64 23 (f) := (B0.rowOther (by omega))
    have qB1 : Blk (W4.setRow (w.heap.size + 1 + 1) (bcells 64 (bzD p f g))) (w.heap.size + 1) 64 23 (g) := (B1.rowOther (by omega))
    have qB2 : Blk (W4.setRow (w.heap.size + 1 + 1) (bcells 64 (bzD p f g))) (w.heap.size + 1 + 1) 64 23 (bzD p f g) := (B2.row (bzD p f g))
    have qB3 : Blk (W4.setRow (w.heap.size + 1 + 1) (bcells 64 (bzD p f g))) (N1) 64 23 (bzD p f g) := (B3.rowOther (by omega))
    have qB4 : Blk (W4.setRow (w.heap.size + 1 + 1) (bcells 64 (bzD p f g))) (N1 + 1) 64 23 (bzU p f g) := (B4.rowOther (by omega))
    have qB5 : Blk (W4.setRow (w.heap.size + 1 + 1) (bcells 64 (bzD p f g))) (N1 + 1 + 1) 64 23 (bzW p f g) := (B5.rowOther (by omega))
    have qhb : Below w.heap.size w (W4.setRow (w.heap.size + 1 + 1) (bcells 64 (bzD p f g))) := (below_row hb (by omega) _)
    obtain ⟨W5, hwo⟩ : ∃ v : World, v = (W4.setRow (w.heap.size + 1 + 1) (bcells 64 (bzD p f g))) := ⟨_, rfl⟩
    rw [← hwo] at qB0 qB1 qB2 qB3 qB4 qB5 qhb ⊢
    clear hwo
    clear B0 B1 B2 B3 B4 B5 hb
    have B0 := qB0
    have B1 := qB1
    have B2 := qB2
    have B3 := qB3
    have B4 := qB4
    have B5 := qB5
    have hb := qhb
    clear qB0 qB1 qB2 qB3 qB4 qB5 qhb
    try simp only [Act.put, List.setIfInBounds_toArray, List.set_cons_zero, List.set_cons_succ]
    refine bodyPost_ret (results_blk rfl _ _ _ 64 23 5 _ rfl B2 Try.underlying23 Try.size23) rfl ⟨rfl, hb⟩
end Go.Proofs.Ytbjpkmbhbpcbgaa
