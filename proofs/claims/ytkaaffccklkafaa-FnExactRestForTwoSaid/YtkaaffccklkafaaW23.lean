/-
  Walks: greatest common divisors behind their checks.
-/
import Derived.Test.YtkaaffccklkafaaW22
namespace Go.Proofs.Ytkaaffccklkafaa
open Go.RowKit
set_option linter.unusedVariables false
set_option linter.unusedSimpArgs false
attribute [local irreducible] deg invN dS qS stp stpr quoP resP oneP bzD bzU bzW bezV twoV
set_option maxRecDepth 100000 in
set_option maxHeartbeats 1600000 in
theorem spec_BezoutOf_any (p : Int) (f g : Nat → Nat) (hf : byte f) (hg : byte g) (w : World) :
    Calls Try.prog 53 #[.int .i64 p, .agg (bcells 64 f), .agg (bcells 64 g)] w fun e w' => e = .returned (.tuple #[.agg (bcells 64 (bezV p f g).1), .agg (bcells 64 (bezV p f g).2.1), .agg (bcells 64 (bezV p f g).2.2.1), .int .i64 (bezV p f g).2.2.2]) ∧ Below w.heap.size w w' := by
  go_enter Try.func53, Try.ntmps53
  go_upto_region 1 with (fail)
  rw [← zero64]
  obtain ⟨W1, hwo⟩ : ∃ v : World, v = (((((w.alloc (.cells (bcells 64 (f)) 25)).alloc (.cells (bcells 64 (g)) 25)).alloc (.cells (bcells 64 fun _ => 0) 25)).alloc (.cells (bcells 64 fun _ => 0) 25)).alloc (.cells (bcells 64 fun _ => 0) 25)) := ⟨_, rfl⟩
  have B0 : Blk W1 (w.heap.size) 64 25 (f) := by subst hwo; have := (((((Blk.new w 64 25 (f)).alloc (.cells (bcells 64 (g)) 25)).alloc (.cells (bcells 64 fun _ => 0) 25)).alloc (.cells (bcells 64 fun _ => 0) 25)).alloc (.cells (bcells 64 fun _ => 0) 25)); simpa using this
  have B1 : Blk W1 (w.heap.size + 1) 64 25 (g) := by subst hwo; have := ((((Blk.new (w.alloc (.cells (bcells 64 (f)) 25)) 64 25 (g)).alloc (.cells (bcells 64 fun _ => 0) 25)).alloc (.cells (bcells 64 fun _ => 0) 25)).alloc (.cells (bcells 64 fun _ => 0) 25)); simpa using this
  have B2 : Blk W1 (w.heap.size + 1 + 1) 64 25 (fun _ => 0) := by subst hwo; have := (((Blk.new ((w.alloc (.cells (bcells 64 (f)) 25)).alloc (.cells (bcells 64 (g)) 25)) 64 25 (fun _ => 0)).alloc (.cells (bcells 64 fun _ => 0) 25)).alloc (.cells (bcells 64 fun _ => 0) 25)); simpa using this
  have B3 : Blk W1 (w.heap.size + 1 + 1 + 1) 64 25 (fun _ => 0) := by subst hwo; have := ((Blk.new (((w.alloc (.cells (bcells 64 (f)) 25)).alloc (.cells (bcells 64 (g)) 25)).alloc (.cells (bcells 64 fun _ => 0) 25)) 64 25 (fun _ => 0)).alloc (.cells (bcells 64 fun _ => 0) 25)); simpa using this
  have B4 : Blk W1 (w.heap.size + 1 + 1 + 1 + 1) 64 25 (fun _ => 0) := by subst hwo; have := (Blk.new ((((w.alloc (.cells (bcells 64 (f)) 25)).alloc (.cells (bcells 64 (g)) 25)).alloc (.cells (bcells 64 fun _ => 0) 25)).alloc (.cells (bcells 64 fun _ => 0) 25)) 64 25 (fun _ => 0)); simpa using this
  have hb : Below w.heap.size w W1 := by subst hwo; exact ((((((Below.refl _ _).alloc (Nat.le_refl _) _).alloc (by simp) _).alloc (by simp; omega) _).alloc (by simp; omega) _).alloc (by simp; omega) _)
  rw [← hwo]
  clear hwo
  go_upto_region 2 with (first | (refine wpList_load_any rfl 25 (.tmp 4) rfl _ rfl 64 25 _ (B0) _ Try.underlying25 rfl Try.size25 ?_) | (refine wpList_load_any rfl 25 (.tmp 5) rfl _ rfl 64 25 _ (B1) _ Try.underlying25 rfl Try.size25 ?_) | (go_at_call 159; refine (l01Two_any p f g hf hg _).mono ?_; rintro e W2 ⟨rfl, hW2⟩; replace B0 := B0.below hW2 B0.lt; replace B1 := B1.below hW2 B1.lt; replace B2 := B2.below hW2 B2.lt; replace B3 := B3.below hW2 B3.lt; replace B4 := B4.below hW2 B4.lt; replace hb := (hb).trans (hW2.mono (hb).size)))
  rcases codeL_two p [f, g] with hc | hc
  · obtain ⟨n, hn, n2, n7⟩ := okP_nat (codeL_zero hc).1
    subst hn
    have lf := lt_of_code hc (f := f) (by simp)
    have lg := lt_of_code hc (f := g) (by simp)
    have hpr := prime_of hc
    by_cases hz : deg f < 0 ∧ deg g < 0
    · have HV := Lib.hid (bezV_zero hc hz)
      rw [twoV_zero hc hz]
      clear hc
      go_upto_region 3 with (fail)
      have lt_B0 := B0.lt
      have lt_B1 := B1.lt
      have lt_B2 := B2.lt
      have lt_B3 := B3.lt
      have lt_B4 := B4.lt
      go_wp2_with (first | rw [← zero64] | (refine wpList_store_blk rfl 25 (.tmp 6) (.tmp 20) rfl _ 64 (fun _ => 0) rfl rfl 25 _ (B2) Try.size25 ?_) | (refine wpList_store_blk rfl 25 (.tmp 7) (.tmp 21) rfl _ 64 (fun _ => 0) rfl rfl 25 _ ((B3.rowOther (by omega))) Try.size25 ?_) | (refine wpList_store_blk rfl 25 (.tmp 8) (.tmp 22) rfl _ 64 (fun _ => 0) rfl rfl 25 _ (((B4.rowOther (by omega)).rowOther (by omega))) Try.size25 ?_))
      have qB0 : Blk (((W2.setRow (w.heap.size + 1 + 1) (bcells 64 (fun _ => 0))).setRow (w.heap.size + 1 + 1 + 1) (bcells 64 (fun _ => 0))).setRow (w.heap.size + 1 + 1 + 1 + 1) (bcells 64 (fun _ => 0))) (w.heap.size) 64 25 (f) := (((B0.rowOther (by omega)).rowOther (by omega)).rowOther (by omega))
      have qB1 : Blk (((W2.setRow (w.heap.size + 1 + 1) (bcells 64 (fun _ => 0))).setRow (w.heap.size + 1 + 1 + 1) (bcells 64 (fun _ => 0))).setRow (w.heap.size + 1 + 1 + 1 + 1) (bcells 64 (fun _ => 0))) (w.heap.size + 1) 64 25 (g) := (((B1.rowOther (by omega)).rowOther (by omega)).rowOther (by omega))
      have qB2 : Blk (((W2.setRow (w.heap.size + 1 + 1) (bcells 64 (fun _ => 0))).setRow (w.heap.size + 1 + 1 + 1) (bcells 64 (fun _ => 0))).setRow (w.heap.size + 1 + 1 + 1 + 1) (bcells 64 (fun _ => 0))) (w.heap.size + 1 + 1) 64 25 (fun _ => 0) := (((B2.row (fun _ => 0)).rowOther (by omega)).rowOther (by omega))
      have qB3 : Blk (((W2.setRow (w.heap.size + 1 + 1) (bcells 64 (fun _ => 0))).setRow (w.heap.size + 1 + 1 + 1) (bcells 64 (fun _ => 0))).setRow (w.heap.size + 1 + 1 + 1 + 1) (bcells 64 (fun _ => 0))) (w.heap.size + 1 + 1 + 1) 64 25 (fun _ => 0) := (((B3.rowOther (by omega)).row (fun _ => 0)).rowOther (by omega))
      have qB4 : Blk (((W2.setRow (w.heap.size + 1 + 1) (bcells 64 (fun _ => 0))).setRow (w.heap.size + 1 + 1 + 1) (bcells 64 (fun _ => 0))).setRow (w.heap.size + 1 + 1 + 1 + 1) (bcells 64 (fun _ => 0))) (w.heap.size + 1 + 1 + 1 + 1) 64 25 (fun _ => 0) := (((B4.rowOther (by omega)).rowOther (by omega)).row (fun _ => 0))
      have qhb : Below w.heap.size w (((W2.setRow (w.heap.size + 1 + 1) (bcells 64 (fun _ => 0))).setRow (w.heap.size + 1 + 1 + 1) (bcells 64 (fun _ => 0))).setRow (w.heap.size + 1 + 1 + 1 + 1) (bcells 64 (fun _ => 0))) := (below_row (below_row (below_row hb (by omega) _) (by omega) _) (by omega) _)
      obtain ⟨W3, hwo⟩ : ∃ v : World, v = (((W2.setRow (w.heap.size + 1 + 1) (bcells 64 (fun _ => 0))).setRow (w.heap.size + 1 + 1 + 1) (bcells 64 (fun _ => 0))).setRow (w.heap.size + 1 + 1 + 1 + 1) (bcells 64 (fun _ => 0))) := ⟨_, rfl⟩
      rw [← hwo] at qB0 qB1 qB2 qB3 qB4 qhb ⊢
      clear hwo
      clear B0 B1 B2 B3 B4 hb
      have B0 := qB0
      have B1 := qB1
      have B2 := qB2
      have B3 := qB3
      have B4 := qB4
      have hb := qhb
      clear qB0 qB1 qB2 qB3 qB4 qhb
      try simp only [Act.put, List.setIfInBounds_toArray, List.set_cons_zero, List.set_cons_succ]
      refine bodyPost_ret (results_bbbt rfl _ _ _ 64 25 5 _ _ 64 25 5 _ _ 64 25 5 _ rfl B2 Try.underlying25 Try.size25 rfl B3 Try.underlying25 Try.size25 rfl B4 Try.underlying25 Try.size25) rfl ⟨by rw [HV.out]; rfl, hb⟩
    · have HV := Lib.hid (bezV_ok hc hz)
      rw [twoV_ok hc hz]
      clear hc
      go_upto_region 4 with (fail)
      have lt_B0 := B0.lt
      have lt_B1 := B1.lt
      have lt_B2 := B2.lt
      have lt_B3 := B3.lt
      have lt_B4 := B4.lt
      go_upto_region 5 with (first | rw [← zero64] | (refine wpList_load_any rfl 25 (.tmp 4) rfl _ rfl 64 25 _ (B0) _ Try.underlying25 rfl Try.size25 ?_) | (refine wpList_load_any rfl 25 (.tmp 5) rfl _ rfl 64 25 _ (B1) _ Try.underlying25 rfl Try.size25 ?_) | (go_at_call 160; refine (l01Bezout_any n f g _ hpr lf lg (by omega)).mono ?_; rintro e W3 ⟨rfl, hW3⟩; replace B0 := B0.below hW3 B0.lt; replace B1 := B1.below hW3 B1.lt; replace B2 := B2.below hW3 B2.lt; replace B3 := B3.below hW3 B3.lt; replace B4 := B4.below hW3 B4.lt; replace hb := (hb).trans (hW3.mono (hb).size)) | (refine wpList_store_blk rfl 25 (.tmp 11) (.tmp 29) rfl _ 64 (bzD n f g) rfl rfl 25 _ ((((Blk.new W3 64 25 (fun _ => 0)).alloc (.cells (bcells 64 fun _ => 0) 25)).alloc (.cells (bcells 64 fun _ => 0) 25))) Try.size25 ?_) | (refine wpList_store_blk rfl 25 (.tmp 12) (.tmp 30) rfl _ 64 (bzU n f g) rfl rfl 25 _ ((((show Blk ((W3.alloc (.cells (bcells 64 fun _ => 0) 25)).alloc (.cells (bcells 64 fun _ => 0) 25)) (W3.heap.size + 1) 64 25 (fun _ => 0) by have := Blk.new (W3.alloc (.cells (bcells 64 fun _ => 0) 25)) 64 25 (fun _ => 0); simpa using this).alloc (.cells (bcells 64 fun _ => 0) 25)).rowOther (by omega))) Try.size25 ?_) | (refine wpList_store_blk rfl 25 (.tmp 13) (.tmp 31) rfl _ 64 (bzW n f g) rfl rfl 25 _ ((((show Blk (((W3.alloc (.cells (bcells 64 fun _ => 0) 25)).alloc (.cells (bcells 64 fun _ => 0) 25)).alloc (.cells (bcells 64 fun _ => 0) 25)) (W3.heap.size + 1 + 1) 64 25 (fun _ => 0) by have := Blk.new ((W3.alloc (.cells (bcells 64 fun _ => 0) 25)).alloc (.cells (bcells 64 fun _ => 0) 25)) 64 25 (fun _ => 0); simpa using this).rowOther (by omega)).rowOther (by omega))) Try.size25 ?_))
      have lt_B0 := B0.lt
      have lt_B1 := B1.lt
      have lt_B2 := B2.lt
      have lt_B3 := B3.lt
      have lt_B4 := B4.lt
      have lhb := hb.size
      have qB0 : Blk ((((((W3.alloc (.cells (bcells 64 fun _ => 0) 25)).alloc (.cells (bcells 64 fun _ => 0) 25)).alloc (.cells (bcells 64 fun _ => 0) 25)).setRow (W3.heap.size) (bcells 64 (bzD n f g))).setRow (W3.heap.size + 1) (bcells 64 (bzU n f g))).setRow (W3.heap.size + 1 + 1) (bcells 64 (bzW n f g))) (w.heap.size) 64 25 (f) := ((((((B0.alloc (.cells (bcells 64 fun _ => 0) 25)).alloc (.cells (bcells 64 fun _ => 0) 25)).alloc (.cells (bcells 64 fun _ => 0) 25)).rowOther (by omega)).rowOther (by omega)).rowOther (by omega))
      have qB1 : Blk ((((((W3.alloc (.cells (bcells 64 fun _ => 0) 25)).alloc (.cells (bcells 64 fun _ => 0) 25)).alloc (.cells (bcells 64 fun _ => 0) 25)).setRow (W3.heap.size) (bcells 64 (bzD n f g))).setRow (W3.heap.size + 1) (bcells 64 (bzU n f g))).setRow (W3.heap.size + 1 + 1) (bcells 64 (bzW n f g))) (w.heap.size + 1) 64 25 (g) := ((((((B1.alloc (.cells (bcells 64 fun _ => 0) 25)).alloc (.cells (bcells 64 fun _ => 0) 25)).alloc (.cells (bcells 64 fun _ => 0) 25)).rowOther (by omega)).rowOther (by omega)).rowOther (by omega))
      have qB2 : Blk ((((((W3.alloc (.cells (bcells 64 fun _ => 0) 25)).alloc (.cells (bcells 64 fun _ => 0) 25)).alloc (.cells (bcells 64 fun _ => 0) 25)).setRow (W3.heap.size) (bcells 64 (bzD n f g))).setRow (W3.heap.size + 1) (bcells 64 (bzU n f g))).setRow (W3.heap.size + 1 + 1) (bcells 64 (bzW n f g))) (w.heap.size + 1 + 1) 64 25 (fun _ => 0) := ((((((B2.alloc (.cells (bcells 64 fun _ => 0) 25)).alloc (.cells (bcells 64 fun _ => 0) 25)).alloc (.cells (bcells 64 fun _ => 0) 25)).rowOther (by omega)).rowOther (by omega)).rowOther (by omega))
      have qB3 : Blk ((((((W3.alloc (.cells (bcells 64 fun _ => 0) 25)).alloc (.cells (bcells 64 fun _ => 0) 25)).alloc (.cells (bcells 64 fun _ => 0) 25)).setRow (W3.heap.size) (bcells 64 (bzD n f g))).setRow (W3.heap.size + 1) (bcells 64 (bzU n f g))).setRow (W3.heap.size + 1 + 1) (bcells 64 (bzW n f g))) (w.heap.size + 1 + 1 + 1) 64 25 (fun _ => 0) := ((((((B3.alloc (.cells (bcells 64 fun _ => 0) 25)).alloc (.cells (bcells 64 fun _ => 0) 25)).alloc (.cells (bcells 64 fun _ => 0) 25)).rowOther (by omega)).rowOther (by omega)).rowOther (by omega))
      have qB4 : Blk ((((((W3.alloc (.cells (bcells 64 fun _ => 0) 25)).alloc (.cells (bcells 64 fun _ => 0) 25)).alloc (.cells (bcells 64 fun _ => 0) 25)).setRow (W3.heap.size) (bcells 64 (bzD n f g))).setRow (W3.heap.size + 1) (bcells 64 (bzU n f g))).setRow (W3.heap.size + 1 + 1) (bcells 64 (bzW n f g))) (w.heap.size + 1 + 1 + 1 + 1) 64 25 (fun _ => 0) := ((((((B4.alloc (.cells (bcells 64 fun _ => 0) 25)).alloc (.cells (bcells 64 fun _ => 0) 25)).alloc (.cells (bcells 64 fun _ => 0) 25)).rowOther (by omega)).rowOther (by omega)).rowOther (by omega))
      have qB5 : Blk ((((((W3.alloc (.cells (bcells 64 fun _ => 0) 25)).alloc (.cells (bcells 64 fun _ => 0) 25)).alloc (.cells (bcells 64 fun _ => 0) 25)).setRow (W3.heap.size) (bcells 64 (bzD n f g))).setRow (W3.heap.size + 1) (bcells 64 (bzU n f g))).setRow (W3.heap.size + 1 + 1) (bcells 64 (bzW n f g))) (W3.heap.size) 64 25 (bzD n f g) := ((((((Blk.new W3 64 25 (fun _ => 0)).alloc (.cells (bcells 64 fun _ => 0) 25)).alloc (.cells (bcells 64 fun _ => 0) 25)).row (bzD n f g)).rowOther (by omega)).rowOther (by omega))
      have qB6 : Blk ((((((W3.alloc (.cells (bcells 64 fun _ => 0) 25)).alloc (.cells (bcells 64 fun _ => 0) 25)).alloc (.cells (bcells 64 fun _ => 0) 25)).setRow (W3.heap.size) (bcells 64 (bzD n f g))).setRow (W3.heap.size + 1) (bcells 64 (bzU n f g))).setRow (W3.heap.size + 1 + 1) (bcells 64 (bzW n f g))) (W3.heap.size + 1) 64 25 (bzU n f g) := (((((show Blk ((W3.alloc (.cells (bcells 64 fun _ => 0) 25)).alloc (.cells (bcells 64 fun _ => 0) 25)) (W3.heap.size + 1) 64 25 (fun _ => 0) by have := Blk.new (W3.alloc (.cells (bcells 64 fun _ => 0) 25)) 64 25 (fun _ => 0); simpa using this).alloc (.cells (bcells 64 fun _ => 0) 25)).rowOther (by omega)).row (bzU n f g)).rowOther (by omega))
      have qB7 : Blk ((((((W3.alloc (.cells (bcells 64 fun _ => 0) 25)).alloc (.cells (bcells 64 fun _ => 0) 25)).alloc (.cells (bcells 64 fun _ => 0) 25)).setRow (W3.heap.size) (bcells 64 (bzD n f g))).setRow (W3.heap.size + 1) (bcells 64 (bzU n f g))).setRow (W3.heap.size + 1 + 1) (bcells 64 (bzW n f g))) (W3.heap.size + 1 + 1) 64 25 (bzW n f g) := ((((show Blk (((W3.alloc (.cells (bcells 64 fun _ => 0) 25)).alloc (.cells (bcells 64 fun _ => 0) 25)).alloc (.cells (bcells 64 fun _ => 0) 25)) (W3.heap.size + 1 + 1) 64 25 (fun _ => 0) by have := Blk.new ((W3.alloc (.cells (bcells 64 fun _ => 0) 25)).alloc (.cells (bcells 64 fun _ => 0) 25)) 64 25 (fun _ => 0); simpa using this).rowOther (by omega)).rowOther (by omega)).row (bzW n f g))
      have qhb : Below w.heap.size w ((((((W3.alloc (.cells (bcells 64 fun _ => 0) 25)).alloc (.cells (bcells 64 fun _ => 0) 25)).alloc (.cells (bcells 64 fun _ => 0) 25)).setRow (W3.heap.size) (bcells 64 (bzD n f g))).setRow (W3.heap.size + 1) (bcells 64 (bzU n f g))).setRow (W3.heap.size + 1 + 1) (bcells 64 (bzW n f g))) := (below_row (below_row (below_row (((hb.alloc (by have := hb.size; simp; omega) (.cells (bcells 64 fun _ => 0) 25)).alloc (by have := hb.size; simp; omega) (.cells (bcells 64 fun _ => 0) 25)).alloc (by have := hb.size; simp; omega) (.cells (bcells 64 fun _ => 0) 25)) (by omega) _) (by omega) _) (by omega) _)
      obtain ⟨W4, hwo⟩ : ∃ v : World, v = ((((((W3.alloc (.cells (bcells 64 fun _ => 0) 25)).alloc (.cells (bcells 64 fun _ => 0) 25)).alloc (.cells (bcells 64 fun _ => 0) 25)).setRow (W3.heap.size) (bcells 64 (bzD n f g))).setRow (W3.heap.size + 1) (bcells 64 (bzU n f g))).setRow (W3.heap.size + 1 + 1) (bcells 64 (bzW n f g))) := ⟨_, rfl⟩
      rw [← hwo] at qB0 qB1 qB2 qB3 qB4 qB5 qB6 qB7 qhb ⊢
      clear hwo
      clear B0 B1 B2 B3 B4 hb
      have B0 := qB0
      have B1 := qB1
      have B2 := qB2
      have B3 := qB3
      have B4 := qB4
      have B5 := qB5
      have B6 := qB6
      have B7 := qB7
      have hb := qhb
      clear qB0 qB1 qB2 qB3 qB4 qB5 qB6 qB7 qhb
      obtain ⟨N1, hNN⟩ : ∃ n : Nat, n = W3.heap.size := ⟨_, rfl⟩
      rw [← hNN] at lt_B0 lt_B1 lt_B2 lt_B3 lt_B4 lhb B5 B6 B7 ⊢
      clear hNN
      have zN1_0 := lt_B0
      have zN1_1 := lt_B1
      have zN1_2 := lt_B2
      have zN1_3 := lt_B3
      have zN1_4 := lt_B4
      have zN1 := lhb
      clear lt_B0 lt_B1 lt_B2 lt_B3 lt_B4 lhb
      try simp only [Act.put, List.setIfInBounds_toArray, List.set_cons_zero, List.set_cons_succ]
      have lt_B2 : (w.heap.size + 1 + 1) < W4.heap.size := B2.lt
      have lt_B3 : (w.heap.size + 1 + 1 + 1) < W4.heap.size := B3.lt
      have lt_B4 : (w.heap.size + 1 + 1 + 1 + 1) < W4.heap.size := B4.lt
      have lt_B5 : (N1) < W4.heap.size := B5.lt
      have lt_B6 : (N1 + 1) < W4.heap.size := B6.lt
      have lt_B7 : (N1 + 1 + 1) < W4.heap.size := B7.lt
      have hbase : w.heap.size ≤ W4.heap.size := hb.size
      refine wp_region_steps0 Try.mixed (by kernel_rfl) (by kernel_rfl) (fun v => by (simp only [frL, Act.put, List.setIfInBounds_toArray, List.set_cons_zero, List.set_cons_succ, Nat.reduceAdd, Nat.zero_add]; exact rfl))
        (fun L v W5 => Below w.heap.size w W5 ∧ W4.heap.size ≤ W5.heap.size ∧ (∃ g, Blk W5 (w.heap.size + 1 + 1) 64 25 (g)) ∧ (L 3 = false → Blk W5 (w.heap.size + 1 + 1) 64 25 (fun _ => 0)) ∧ (L 3 = true → Blk W5 (w.heap.size + 1 + 1) 64 25 (bzD n f g)) ∧ (∃ g, Blk W5 (w.heap.size + 1 + 1 + 1) 64 25 (g)) ∧ (L 4 = false → Blk W5 (w.heap.size + 1 + 1 + 1) 64 25 (fun _ => 0)) ∧ (L 4 = true → Blk W5 (w.heap.size + 1 + 1 + 1) 64 25 (bzU n f g)) ∧ (∃ g, Blk W5 (w.heap.size + 1 + 1 + 1 + 1) 64 25 (g)) ∧ (L 5 = false → Blk W5 (w.heap.size + 1 + 1 + 1 + 1) 64 25 (fun _ => 0)) ∧ (L 5 = true → Blk W5 (w.heap.size + 1 + 1 + 1 + 1) 64 25 (bzW n f g)) ∧ Blk W5 (N1) 64 25 (bzD n f g) ∧ Blk W5 (N1 + 1) 64 25 (bzU n f g) ∧ Blk W5 (N1 + 1 + 1) 64 25 (bzW n f g) ∧ (L 0 = true → v 0 = (.agg (bcells 64 (bzD n f g)))) ∧ (L 1 = true → v 1 = (.agg (bcells 64 (bzU n f g)))) ∧ (L 2 = true → v 2 = (.agg (bcells 64 (bzW n f g)))) ∧ (L 6 = true → v 6 = (.int .i64 0))) ?_ ?_ ?_
      · intro v hv0
        exact ⟨hb.drew, Nat.le_refl _, ⟨_, B2.drew⟩, (fun _ => B2.drew), (fun h => by cases h), ⟨_, B3.drew⟩, (fun _ => B3.drew), (fun h => by cases h), ⟨_, B4.drew⟩, (fun _ => B4.drew), (fun h => by cases h), B5.drew, B6.drew, B7.drew, (fun h => by cases h), (fun h => by cases h), (fun h => by cases h), (fun h => by cases h)⟩
      · refine (.cons rfl ?_ (.cons rfl ?_ (.cons rfl ?_ (.cons rfl ?_ (.cons rfl ?_ (.cons rfl ?_ (.cons rfl ?_ (.nil _))))))))
        · intro L v W5 hd hn ⟨hB, hz, x0, q0, n0, x1, q1, n1, x2, q2, n2, s3, s4, s5, h0, h1, h2, h6⟩ K hK
          refine wp_load_any 25 _ rfl _ rfl 64 25 _ s3 _ Try.underlying25 rfl Try.size25 ?_
          exact hK _ _ _ rfl ⟨hB, hz, x0, q0, n0, x1, q1, n1, x2, q2, n2, s3, s4, s5, (fun _ => rfl), h1, h2, h6⟩
        · intro L v W5 hd hn ⟨hB, hz, x0, q0, n0, x1, q1, n1, x2, q2, n2, s3, s4, s5, h0, h1, h2, h6⟩ K hK
          refine wp_load_any 25 _ rfl _ rfl 64 25 _ s4 _ Try.underlying25 rfl Try.size25 ?_
          exact hK _ _ _ rfl ⟨hB, hz, x0, q0, n0, x1, q1, n1, x2, q2, n2, s3, s4, s5, h0, (fun _ => rfl), h2, h6⟩
        · intro L v W5 hd hn ⟨hB, hz, x0, q0, n0, x1, q1, n1, x2, q2, n2, s3, s4, s5, h0, h1, h2, h6⟩ K hK
          refine wp_load_any 25 _ rfl _ rfl 64 25 _ s5 _ Try.underlying25 rfl Try.size25 ?_
          exact hK _ _ _ rfl ⟨hB, hz, x0, q0, n0, x1, q1, n1, x2, q2, n2, s3, s4, s5, h0, h1, (fun _ => rfl), h6⟩
        · intro L v W5 hd hn ⟨hB, hz, x0, q0, n0, x1, q1, n1, x2, q2, n2, s3, s4, s5, h0, h1, h2, h6⟩ K hK
          have e0 := h0 (hd ⟨0, .data⟩ (by simp) rfl)
          obtain ⟨gz, hk⟩ := x0
          refine wp_store_blk 25 _ _ rfl _ 64 (bzD n f g) rfl e0 25 gz hk Try.size25 ?_
          exact hK _ undef _ rfl ⟨below_row hB (by omega) _, (by simpa [World.setRow] using hz), ⟨_, hk.row _⟩, (fun h => absurd h (by simp [setL])), (fun _ => hk.row _), (let ⟨g, h⟩ := x1; ⟨g, (h).rowOther (by omega)⟩), (fun h => (q1 h).rowOther (by omega)), (fun h => (n1 h).rowOther (by omega)), (let ⟨g, h⟩ := x2; ⟨g, (h).rowOther (by omega)⟩), (fun h => (q2 h).rowOther (by omega)), (fun h => (n2 h).rowOther (by omega)), (s3).rowOther (by omega), (s4).rowOther (by omega), (s5).rowOther (by omega), h0, h1, h2, h6⟩
        · intro L v W5 hd hn ⟨hB, hz, x0, q0, n0, x1, q1, n1, x2, q2, n2, s3, s4, s5, h0, h1, h2, h6⟩ K hK
          have e1 := h1 (hd ⟨1, .data⟩ (by simp) rfl)
          obtain ⟨gz, hk⟩ := x1
          refine wp_store_blk 25 _ _ rfl _ 64 (bzU n f g) rfl e1 25 gz hk Try.size25 ?_
          exact hK _ undef _ rfl ⟨below_row hB (by omega) _, (by simpa [World.setRow] using hz), (let ⟨g, h⟩ := x0; ⟨g, (h).rowOther (by omega)⟩), (fun h => (q0 h).rowOther (by omega)), (fun h => (n0 h).rowOther (by omega)), ⟨_, hk.row _⟩, (fun h => absurd h (by simp [setL])), (fun _ => hk.row _), (let ⟨g, h⟩ := x2; ⟨g, (h).rowOther (by omega)⟩), (fun h => (q2 h).rowOther (by omega)), (fun h => (n2 h).rowOther (by omega)), (s3).rowOther (by omega), (s4).rowOther (by omega), (s5).rowOther (by omega), h0, h1, h2, h6⟩
        · intro L v W5 hd hn ⟨hB, hz, x0, q0, n0, x1, q1, n1, x2, q2, n2, s3, s4, s5, h0, h1, h2, h6⟩ K hK
          have e2 := h2 (hd ⟨2, .data⟩ (by simp) rfl)
          obtain ⟨gz, hk⟩ := x2
          refine wp_store_blk 25 _ _ rfl _ 64 (bzW n f g) rfl e2 25 gz hk Try.size25 ?_
          exact hK _ undef _ rfl ⟨below_row hB (by omega) _, (by simpa [World.setRow] using hz), (let ⟨g, h⟩ := x0; ⟨g, (h).rowOther (by omega)⟩), (fun h => (q0 h).rowOther (by omega)), (fun h => (n0 h).rowOther (by omega)), (let ⟨g, h⟩ := x1; ⟨g, (h).rowOther (by omega)⟩), (fun h => (q1 h).rowOther (by omega)), (fun h => (n1 h).rowOther (by omega)), ⟨_, hk.row _⟩, (fun h => absurd h (by simp [setL])), (fun _ => hk.row _), (s3).rowOther (by omega), (s4).rowOther (by omega), (s5).rowOther (by omega), h0, h1, h2, h6⟩
        · intro L v W5 hd hn ⟨hB, hz, x0, q0, n0, x1, q1, n1, x2, q2, n2, s3, s4, s5, h0, h1, h2, h6⟩ K hK
          go_wp2_with fail
          exact hK _ (.int .i64 0) _ (by simp only [Act.put, List.setIfInBounds_toArray, List.set_cons_zero, List.set_cons_succ ]) ⟨hB, hz, x0, q0, n0, x1, q1, n1, x2, q2, n2, s3, s4, s5, h0, h1, h2, (fun _ => rfl)⟩
      · intro L v W5 hL ⟨hB, hz, x0, q0, n0, x1, q1, n1, x2, q2, n2, s3, s4, s5, h0, h1, h2, h6⟩
        have r0 := n0 (hL 3 (by decide))
        have r1 := n1 (hL 4 (by decide))
        have r2 := n2 (hL 5 (by decide))
        have e0 := h0 (hL 0 (by decide))
        have e1 := h1 (hL 1 (by decide))
        have e2 := h2 (hL 2 (by decide))
        have e6 := h6 (hL 6 (by decide))
        clear hL x0 q0 n0 x1 q1 n1 x2 q2 n2 h0 h1 h2 h6
        simp only [Exit.then, e0, e1, e2, e6]
        clear e0 e1 e2 e6
        replace B0 := B0
        replace B1 := B1
        clear B2
        have B2 := r0
        clear r0
        clear B3
        have B3 := r1
        clear r1
        clear B4
        have B4 := r2
        clear r2
        clear B5
        have B5 := s3
        clear s3
        clear B6
        have B6 := s4
        clear s4
        clear B7
        have B7 := s5
        clear s5
        clear hb
        have hb := hB
        clear hB
        clear hbase hz lt_B2 lt_B3 lt_B4 lt_B5 lt_B6 lt_B7
        go_wp2_with fail
        refine bodyPost_ret (results_bbbt rfl _ _ _ 64 25 5 _ _ 64 25 5 _ _ 64 25 5 _ rfl B2 Try.underlying25 Try.size25 rfl B3 Try.underlying25 Try.size25 rfl B4 Try.underlying25 Try.size25) rfl ⟨by rw [HV.out]; rfl, hb⟩
  · have HV := Lib.hid (bezV_bad hc)
    rw [twoV_bad hc]
    clear hc
    go_upto_region 3 with (fail)
    have lt_B0 := B0.lt
    have lt_B1 := B1.lt
    have lt_B2 := B2.lt
    have lt_B3 := B3.lt
    have lt_B4 := B4.lt
    go_wp2_with (first | rw [← zero64] | (refine wpList_store_blk rfl 25 (.tmp 6) (.tmp 20) rfl _ 64 (fun _ => 0) rfl rfl 25 _ (B2) Try.size25 ?_) | (refine wpList_store_blk rfl 25 (.tmp 7) (.tmp 21) rfl _ 64 (fun _ => 0) rfl rfl 25 _ ((B3.rowOther (by omega))) Try.size25 ?_) | (refine wpList_store_blk rfl 25 (.tmp 8) (.tmp 22) rfl _ 64 (fun _ => 0) rfl rfl 25 _ (((B4.rowOther (by omega)).rowOther (by omega))) Try.size25 ?_))
    have qB0 : Blk (((W2.setRow (w.heap.size + 1 + 1) (bcells 64 (fun _ => 0))).setRow (w.heap.size + 1 + 1 + 1) (bcells 64 (fun _ => 0))).setRow (w.heap.size + 1 + 1 + 1 + 1) (bcells 64 (fun _ => 0))) (w.heap.size) 64 25 (f) := (((B0.rowOther (by omega)).rowOther (by omega)).rowOther (by omega))
    have qB1 : Blk (((W2.setRow (w.heap.size + 1 + 1) (bcells 64 (fun _ => 0))).setRow (w.heap.size + 1 + 1 + 1) (bcells 64 (fun _ => 0))).setRow (w.heap.size + 1 + 1 + 1 + 1) (bcells 64 (fun _ => 0))) (w.heap.size + 1) 64 25 (g) := (((B1.rowOther (by omega)).rowOther (by omega)).rowOther (by omega))
    have qB2 : Blk (((W2.setRow (w.heap.size + 1 + 1) (bcells 64 (fun _ => 0))).setRow (w.heap.size + 1 + 1 + 1) (bcells 64 (fun _ => 0))).setRow (w.heap.size + 1 + 1 + 1 + 1) (bcells 64 (fun _ => 0))) (w.heap.size + 1 + 1) 64 25 (fun _ => 0) := (((B2.row (fun _ => 0)).rowOther (by omega)).rowOther (by omega))
    have qB3 : Blk (((W2.setRow (w.heap.size + 1 + 1) (bcells 64 (fun _ => 0))).setRow (w.heap.size + 1 + 1 + 1) (bcells 64 (fun _ => 0))).setRow (w.heap.size + 1 + 1 + 1 + 1) (bcells 64 (fun _ => 0))) (w.heap.size + 1 + 1 + 1) 64 25 (fun _ => 0) := (((B3.rowOther (by omega)).row (fun _ => 0)).rowOther (by omega))
    have qB4 : Blk (((W2.setRow (w.heap.size + 1 + 1) (bcells 64 (fun _ => 0))).setRow (w.heap.size + 1 + 1 + 1) (bcells 64 (fun _ => 0))).setRow (w.heap.size + 1 + 1 + 1 + 1) (bcells 64 (fun _ => 0))) (w.heap.size + 1 + 1 + 1 + 1) 64 25 (fun _ => 0) := (((B4.rowOther (by omega)).rowOther (by omega)).row (fun _ => 0))
    have qhb : Below w.heap.size w (((W2.setRow (w.heap.size + 1 + 1) (bcells 64 (fun _ => 0))).setRow (w.heap.size + 1 + 1 + 1) (bcells 64 (fun _ => 0))).setRow (w.heap.size + 1 + 1 + 1 + 1) (bcells 64 (fun _ => 0))) := (below_row (below_row (below_row hb (by omega) _) (by omega) _) (by omega) _)
    obtain ⟨W3, hwo⟩ : ∃ v : World, v = (((W2.setRow (w.heap.size + 1 + 1) (bcells 64 (fun _ => 0))).setRow (w.heap.size + 1 + 1 + 1) (bcells 64 (fun _ => 0))).setRow (w.heap.size + 1 + 1 + 1 + 1) (bcells 64 (fun _ => 0))) := ⟨_, rfl⟩
    rw [← hwo] at qB0 qB1 qB2 qB3 qB4 qhb ⊢
    clear hwo
    clear B0 B1 B2 B3 B4 hb
    have B0 := qB0
    have B1 := qB1
    have B2 := qB2
    have B3 := qB3
    have B4 := qB4
    have hb := qhb
    clear qB0 qB1 qB2 qB3 qB4 qhb
    try simp only [Act.put, List.setIfInBounds_toArray, List.set_cons_zero, List.set_cons_succ]
    refine bodyPost_ret (results_bbbt rfl _ _ _ 64 25 5 _ _ 64 25 5 _ _ 64 25 5 _ rfl B2 Try.underlying25 Try.size25 rfl B3 Try.underlying25 Try.size25 rfl B4 Try.underlying25 Try.size25) rfl ⟨by rw [HV.out]; rfl, hb⟩
end Go.Proofs.Ytkaaffccklkafaa
