/-
  Walks: the program's powers modulo a polynomial: the closure, and the powers by squares with a map of squares.
-/
import Derived.Test.YtpeehpaghdddgaaW33
import Derived.Test.YtpeehpaghdddgaaPw
import Derived.Test.YtpeehpaghdddgaaMpk
namespace Go.Proofs.Ytpeehpaghdddgaa
open Go.RowKit
set_option linter.unusedVariables false
set_option linter.unusedSimpArgs false
attribute [local irreducible] deg invN dS qS stp stpr quoP resP oneP upP upF hmR mmP shA addK pgR mmC pmI
set_option maxRecDepth 100000 in
set_option maxHeartbeats 1600000 in
theorem timesMod_any (p : Nat) (f g m : Nat → Nat) (bp bm : Nat) (w : World) (hpr : p = 2 ∨ p = 3 ∨ p = 5 ∨ p = 7) (lf : ∀ k, k < 64 → f k < p) (lg : ∀ k, k < 64 → g k < p) (lm : ∀ k, k < 64 → m k < p) (h0 : 0 ≤ deg m)
    (B0 : One w bp 2 (.int .i64 (p : Int))) (B1 : Blk w bm 64 26 m) :
    Calls Try.prog 137 #[.agg (bcells 64 f), .agg (bcells 64 g), .pointer (some ⟨bp, 0, none⟩), .pointer (some ⟨bm, 0, none⟩)] w fun e w' => e = .returned (.agg (bcells 64 (mmP p f g m))) ∧ Below w.heap.size w w' := by
  have HRP := Lib.hid (fun W => restOfProduct_any p f g m W hpr lf lg lm h0)
  have zx_0 := B0.lt
  have zx_1 := B1.lt
  go_enter Try.func137, Try.ntmps137
  go_upto_region 1 with (fail)
  rw [← zero64]
  obtain ⟨W1, hwo⟩ : ∃ v : World, v = (((w.alloc (.cells (bcells 64 (f)) 26)).alloc (.cells (bcells 64 (g)) 26)).alloc (.cells (bcells 64 fun _ => 0) 26)) := ⟨_, rfl⟩
  have B2 : Blk W1 (w.heap.size) 64 26 (f) := by subst hwo; have := (((Blk.new w 64 26 (f)).alloc (.cells (bcells 64 (g)) 26)).alloc (.cells (bcells 64 fun _ => 0) 26)); simpa using this
  have B3 : Blk W1 (w.heap.size + 1) 64 26 (g) := by subst hwo; have := ((Blk.new (w.alloc (.cells (bcells 64 (f)) 26)) 64 26 (g)).alloc (.cells (bcells 64 fun _ => 0) 26)); simpa using this
  have B4 : Blk W1 (w.heap.size + 1 + 1) 64 26 (fun _ => 0) := by subst hwo; have := (Blk.new ((w.alloc (.cells (bcells 64 (f)) 26)).alloc (.cells (bcells 64 (g)) 26)) 64 26 (fun _ => 0)); simpa using this
  replace B0 : One W1 (bp) 2 (.int .i64 (p : Int)) := by subst hwo; exact (((B0.alloc (.cells (bcells 64 (f)) 26)).alloc (.cells (bcells 64 (g)) 26)).alloc (.cells (bcells 64 fun _ => 0) 26))
  replace B1 : Blk W1 (bm) 64 26 (m) := by subst hwo; exact (((B1.alloc (.cells (bcells 64 (f)) 26)).alloc (.cells (bcells 64 (g)) 26)).alloc (.cells (bcells 64 fun _ => 0) 26))
  have hb : Below w.heap.size w W1 := by subst hwo; exact ((((Below.refl _ _).alloc (Nat.le_refl _) _).alloc (by simp) _).alloc (by simp; omega) _)
  rw [← hwo]
  clear hwo
  have lt_B0 := B0.lt
  have lt_B1 := B1.lt
  have lt_B2 := B2.lt
  have lt_B3 := B3.lt
  have lt_B4 := B4.lt
  go_wp2_with (first | rw [← zero64] | (refine wpList_load_one rfl 2 (.tmp 2) rfl _ rfl 2 ((.int .i64 (p : Int))) (B0) _ Try.underlying2 rfl ?_) | (refine wpList_load_any rfl 26 (.tmp 4) rfl _ rfl 64 26 _ (B2) _ Try.underlying26 rfl Try.size26 ?_) | (refine wpList_load_any rfl 26 (.tmp 5) rfl _ rfl 64 26 _ (B3) _ Try.underlying26 rfl Try.size26 ?_) | (refine wpList_load_any rfl 26 (.tmp 3) rfl _ rfl 64 26 _ (B1) _ Try.underlying26 rfl Try.size26 ?_) | (go_at_call 118; refine (HRP.out _).mono ?_; rintro e W2 ⟨rfl, hW2⟩; replace B0 := B0.below hW2 B0.lt; replace B1 := B1.below hW2 B1.lt; replace B2 := B2.below hW2 B2.lt; replace B3 := B3.below hW2 B3.lt; replace B4 := B4.below hW2 B4.lt; replace hb := (hb).trans (hW2.mono (hb).size)) | (refine wpList_store_blk rfl 26 (.tmp 6) (.tmp 11) rfl _ 64 (mmP p f g m) rfl rfl 26 _ (B4) Try.size26 ?_; try simp only [Act.put]))
  have qB0 : One (W2.setRow (w.heap.size + 1 + 1) (bcells 64 (mmP p f g m))) (bp) 2 (.int .i64 (p : Int)) := (B0.rowOther (by omega))
  have qB1 : Blk (W2.setRow (w.heap.size + 1 + 1) (bcells 64 (mmP p f g m))) (bm) 64 26 (m) := (B1.rowOther (by omega))
  have qB2 : Blk (W2.setRow (w.heap.size + 1 + 1) (bcells 64 (mmP p f g m))) (w.heap.size) 64 26 (f) := (B2.rowOther (by omega))
  have qB3 : Blk (W2.setRow (w.heap.size + 1 + 1) (bcells 64 (mmP p f g m))) (w.heap.size + 1) 64 26 (g) := (B3.rowOther (by omega))
  have qB4 : Blk (W2.setRow (w.heap.size + 1 + 1) (bcells 64 (mmP p f g m))) (w.heap.size + 1 + 1) 64 26 (mmP p f g m) := (B4.row (mmP p f g m))
  have qhb : Below w.heap.size w (W2.setRow (w.heap.size + 1 + 1) (bcells 64 (mmP p f g m))) := (below_row hb (by omega) _)
  obtain ⟨W3, hwo⟩ : ∃ v : World, v = (W2.setRow (w.heap.size + 1 + 1) (bcells 64 (mmP p f g m))) := ⟨_, rfl⟩
  rw [← hwo] at qB0 qB1 qB2 qB3 qB4 qhb ⊢
  clear hwo
  clear B0 B1 B2 B3 B4 hb
  have B0 := qB0
  have B1 := qB1
  have B2 := qB2
  have B3 := qB3
  have B4 := qB4
  have hb := qhb
  clear qB0 qB1 qB2 qB3 qB4 qhb
  try simp only [Act.put, List.setIfInBounds_toArray, List.set_cons_zero, List.set_cons_succ]
  refine bodyPost_ret (results_blk rfl _ _ _ 64 26 5 _ rfl B4 Try.underlying26 Try.size26) rfl ⟨rfl, hb⟩
set_option maxRecDepth 100000 in
set_option maxHeartbeats 1600000 in
theorem powerMod (mul : (Nat → Nat) → (Nat → Nat) → (Nat → Nat)) (P : Nat → (Nat → Nat) → (Nat → Nat) → Prop) (c1 c2 : Value) (f : Nat → Nat) (k0 : Nat) (w : World)
    (HT1 : Hid (∀ k r s W, P k r s → k % 2 = 1 → Below w.heap.size w W → Calls Try.prog 137 #[.agg (bcells 64 r), .agg (bcells 64 s), c1, c2] W fun e w' => e = .returned (.agg (bcells 64 (mul r s))) ∧ Below W.heap.size W w'))
    (HT2 : Hid (∀ k r s W, P k r s → 1 < k → Below w.heap.size w W → Calls Try.prog 137 #[.agg (bcells 64 s), .agg (bcells 64 s), c1, c2] W fun e w' => e = .returned (.agg (bcells 64 (mul s s))) ∧ Below W.heap.size W w'))
    (HS : Hid (∀ k r s, P k r s → 1 < k → P (k / 2) (if k % 2 = 1 then mul r s else r) (mul s s)))
    (HC : Hid (∀ x y, (∀ i, i < 64 → x i = y i) → mul x x = mul y y)) (HB : Hid (∀ k r s, P k r s → ∀ i, i < 64 → s i < 256)) (H0 : 0 < k0 → P k0 oneP f) (hk0 : (k0 : Int) ≤ 1000000000000) :
    Calls Try.prog 87 #[.agg (bcells 64 f), .int .i64 (k0 : Int), .func (.func 137) #[] #[c1, c2]] w fun e w' => e = .returned (.agg (bcells 64 (pgR mul 64 k0 oneP f))) ∧ Below w.heap.size w w' := by
  have hmm := @run_makeMap Try.prog
  go_enter Try.func87, Try.ntmps87
  go_upto_region 1 with (fail)
  rw [← zero64]
  obtain ⟨W1, hwo⟩ : ∃ v : World, v = ((w.alloc (.cells (bcells 64 (f)) 26)).alloc (.cells (bcells 64 fun _ => 0) 26)) := ⟨_, rfl⟩
  have B0 : Blk W1 (w.heap.size) 64 26 (f) := by subst hwo; have := ((Blk.new w 64 26 (f)).alloc (.cells (bcells 64 fun _ => 0) 26)); simpa using this
  have B1 : Blk W1 (w.heap.size + 1) 64 26 (fun _ => 0) := by subst hwo; have := (Blk.new (w.alloc (.cells (bcells 64 (f)) 26)) 64 26 (fun _ => 0)); simpa using this
  have hb : Below w.heap.size w W1 := by subst hwo; exact (((Below.refl _ _).alloc (Nat.le_refl _) _).alloc (by simp) _)
  rw [← hwo]
  clear hwo
  go_upto_region 2 with (fail)
  have lt_B0 := B0.lt
  have lt_B1 := B1.lt
  have lhb := hb.size
  have qB0 : Blk (W1.alloc (.map #[] 0)) (w.heap.size) 64 26 (f) := (B0.alloc (.map #[] 0))
  have qB1 : Blk (W1.alloc (.map #[] 0)) (w.heap.size + 1) 64 26 (fun _ => 0) := (B1.alloc (.map #[] 0))
  have qB2 : MapG Try.prog 26 (W1.alloc (.map #[] 0)) (W1.heap.size) [] := (MapG.new Try.prog 26 W1)
  have qhb : Below w.heap.size w (W1.alloc (.map #[] 0)) := (hb.alloc hb.size (.map #[] 0))
  obtain ⟨W2, hwo⟩ : ∃ v : World, v = (W1.alloc (.map #[] 0)) := ⟨_, rfl⟩
  rw [← hwo] at qB0 qB1 qB2 qhb ⊢
  clear hwo
  clear B0 B1 hb
  have B0 := qB0
  have B1 := qB1
  have B2 := qB2
  have hb := qhb
  clear qB0 qB1 qB2 qhb
  obtain ⟨N1, hNN⟩ : ∃ n : Nat, n = W1.heap.size := ⟨_, rfl⟩
  rw [← hNN] at lt_B0 lt_B1 lhb B2 ⊢
  clear hNN
  have zN1_0 := lt_B0
  have zN1_1 := lt_B1
  have zN1 := lhb
  clear lt_B0 lt_B1 lhb
  try simp only [Act.put, List.setIfInBounds_toArray, List.set_cons_zero, List.set_cons_succ]
  have lt_B0 := B0.lt
  have lt_B1 := B1.lt
  have lt_B2 := B2.lt
  go_wp2_with (first | rw [← zero64] | (refine wpList_build_of rfl 26 _ rfl (bcells 64 oneP) (by rw [Array.toList_map]; exact built_one) ?_) | (refine wpList_store_blk rfl 26 (.tmp 8) (.tmp 12) rfl _ 64 (oneP) rfl rfl 26 _ ((Blk.new W2 64 26 (fun _ => 0))) Try.size26 ?_; try simp only [Act.put]))
  have lt_B0 := B0.lt
  have lt_B1 := B1.lt
  have lt_B2 := B2.lt
  have lhb := hb.size
  have qB0 : Blk ((W2.alloc (.cells (bcells 64 fun _ => 0) 26)).setRow (W2.heap.size) (bcells 64 (oneP))) (w.heap.size) 64 26 (f) := ((B0.alloc (.cells (bcells 64 fun _ => 0) 26)).rowOther (by omega))
  have qB1 : Blk ((W2.alloc (.cells (bcells 64 fun _ => 0) 26)).setRow (W2.heap.size) (bcells 64 (oneP))) (w.heap.size + 1) 64 26 (fun _ => 0) := ((B1.alloc (.cells (bcells 64 fun _ => 0) 26)).rowOther (by omega))
  have qB2 : MapG Try.prog 26 ((W2.alloc (.cells (bcells 64 fun _ => 0) 26)).setRow (W2.heap.size) (bcells 64 (oneP))) (N1) [] := ((B2.alloc (.cells (bcells 64 fun _ => 0) 26)).rowOther (by omega))
  have qB3 : Blk ((W2.alloc (.cells (bcells 64 fun _ => 0) 26)).setRow (W2.heap.size) (bcells 64 (oneP))) (W2.heap.size) 64 26 (oneP) := ((Blk.new W2 64 26 (fun _ => 0)).row (oneP))
  have qhb : Below w.heap.size w ((W2.alloc (.cells (bcells 64 fun _ => 0) 26)).setRow (W2.heap.size) (bcells 64 (oneP))) := (below_row (hb.alloc (by have := hb.size; simp; omega) (.cells (bcells 64 fun _ => 0) 26)) (by omega) _)
  obtain ⟨W3, hwo⟩ : ∃ v : World, v = ((W2.alloc (.cells (bcells 64 fun _ => 0) 26)).setRow (W2.heap.size) (bcells 64 (oneP))) := ⟨_, rfl⟩
  rw [← hwo] at qB0 qB1 qB2 qB3 qhb ⊢
  clear hwo
  clear B0 B1 B2 hb
  have B0 := qB0
  have B1 := qB1
  have B2 := qB2
  have B3 := qB3
  have hb := qhb
  clear qB0 qB1 qB2 qB3 qhb
  obtain ⟨N2, hNN⟩ : ∃ n : Nat, n = W2.heap.size := ⟨_, rfl⟩
  rw [← hNN] at lt_B0 lt_B1 lt_B2 lhb B3 ⊢
  clear hNN
  have zN2_0 := lt_B0
  have zN2_1 := lt_B1
  have zN2_2 := lt_B2
  have zN2 := lhb
  clear lt_B0 lt_B1 lt_B2 lhb
  try simp only [Act.put, List.setIfInBounds_toArray, List.set_cons_zero, List.set_cons_succ]
  go_loopw [1] (fun i wr => ∃ (q k : Nat) (po ps : Nat → Nat) (L : List (Value × Value)), Hid (pgR mul 64 k0 oneP f = pgR mul q k po ps) ∧ k < 2 ^ q ∧ (k : Int) ≤ 1000000000000 ∧ Hid (0 < k → P k po ps) ∧ Hid (∀ q ∈ L, ∃ x, q.1 = .agg (bcells 64 x) ∧ q.2 = .agg (bcells 64 (mul x x))) ∧ i = .int .i64 (k : Int) ∧ Below w.heap.size w wr ∧ Blk wr (w.heap.size) 64 26 ps ∧ Blk wr (w.heap.size + 1) 64 26 (fun _ => 0) ∧ MapG Try.prog 26 wr (N1) L ∧ Blk wr (N2) 64 26 po) (fun i _ => (intOf i).toNat)
  case atStart => exact ⟨64, k0, _, _, [], Lib.hid rfl, (by have h6 : (1000000000000 : Nat) < 2 ^ 64 := (by decide); omega), hk0, Lib.hid H0, Lib.hid (by simp), rfl, hb, B0, B1, B2, B3⟩
  case round =>
    clear hb B0 B1 B2 B3 H0
    obtain ⟨q, k, po, ps, L, hP, hkq, hk, hI, hL, rfl, hb, B0, B1, B2, B3⟩ := hrel
    have HKQ := Lib.hid hkq
    clear hkq hk0 hmm
    by_cases hz : k = 0
    · subst hz
      have HV := Lib.hid (hP.out.trans pgR_z)
      go_upto_region 13 with (fail)
      have lt_B0 := B0.lt
      have lt_B1 := B1.lt
      have lt_B2 := B2.lt
      have lt_B3 := B3.lt
      go_wp2_with (first | rw [← zero64] | (refine wpList_load_any rfl 26 (.tmp 8) rfl _ rfl 64 26 _ (B3) _ Try.underlying26 rfl Try.size26 ?_) | (refine wpList_store_blk rfl 26 (.tmp 6) (.tmp 42) rfl _ 64 (po) rfl rfl 26 _ (B1) Try.size26 ?_; try simp only [Act.put]))
      have qB0 : Blk (wr.setRow (w.heap.size + 1) (bcells 64 (po))) (w.heap.size) 64 26 (ps) := (B0.rowOther (by omega))
      have qB1 : Blk (wr.setRow (w.heap.size + 1) (bcells 64 (po))) (w.heap.size + 1) 64 26 (po) := (B1.row (po))
      have qB2 : MapG Try.prog 26 (wr.setRow (w.heap.size + 1) (bcells 64 (po))) (N1) L := (B2.rowOther (by omega))
      have qB3 : Blk (wr.setRow (w.heap.size + 1) (bcells 64 (po))) (N2) 64 26 (po) := (B3.rowOther (by omega))
      have qhb : Below w.heap.size w (wr.setRow (w.heap.size + 1) (bcells 64 (po))) := (below_row hb (by omega) _)
      obtain ⟨W4, hwo⟩ : ∃ v : World, v = (wr.setRow (w.heap.size + 1) (bcells 64 (po))) := ⟨_, rfl⟩
      rw [← hwo] at qB0 qB1 qB2 qB3 qhb ⊢
      clear hwo
      clear B0 B1 B2 B3 hb
      have B0 := qB0
      have B1 := qB1
      have B2 := qB2
      have B3 := qB3
      have hb := qhb
      clear qB0 qB1 qB2 qB3 qhb
      try simp only [Act.put, List.setIfInBounds_toArray, List.set_cons_zero, List.set_cons_succ]
      refine bodyPost_ret (results_blk rfl _ _ _ 64 26 5 _ rfl B1 Try.underlying26 Try.size26) rfl ⟨by rw [HV.out], hb⟩
    · obtain ⟨q, rfl⟩ : ∃ t, q = t + 1 := ⟨q - 1, by have h1 := HKQ.out; have h2 : q ≠ 0 := (by intro h; rw [h, Nat.pow_zero] at h1; omega); omega⟩
      have hpos : (0 : Int) < (k : Int) := by omega
      have HP := Lib.hid (hI.out (by omega))
      clear hI
      by_cases hodd : k % 2 = 1
      · have hb1 : (((k : Int) % 2) == 1) = true := beq_iff_eq.2 (by omega)
        have hb2 : (((k : Int).tmod 2) == 1) = true := by rw [Int.tmod_eq_emod_of_nonneg (by omega)]; exact hb1
        have HO := Lib.hid hodd
        have HV := Lib.hid (hP.out.trans (pgR_odd hz hodd))
        have HD := Lib.hid (show k / 2 < 2 ^ q by have := HKQ.out; rw [Nat.pow_succ] at this; omega)
        clear hodd hz hP
        go_upto_region 5 with (fail)
        clear hb1 hb2
        have lt_B0 := B0.lt
        have lt_B1 := B1.lt
        have lt_B2 := B2.lt
        have lt_B3 := B3.lt
        go_upto_region 6 with (first | rw [← zero64] | (refine wpList_load_any rfl 26 (.tmp 8) rfl _ rfl 64 26 _ (B3) _ Try.underlying26 rfl Try.size26 ?_) | (refine wpList_load_any rfl 26 (.tmp 3) rfl _ rfl 64 26 _ (B0) _ Try.underlying26 rfl Try.size26 ?_) | (go_at_call 137; refine (HT1.out k po ps _ HP.out HO.out hb).mono ?_; rintro e W4 ⟨rfl, hW4⟩; replace B0 := B0.below hW4 B0.lt; replace B1 := B1.below hW4 B1.lt; replace B2 := B2.below hW4 B2.lt; replace B3 := B3.below hW4 B3.lt; replace hb := (hb).trans (hW4.mono (hb).size)) | (refine wpList_store_blk rfl 26 (.tmp 8) (.tmp 21) rfl _ 64 (mul po ps) rfl rfl 26 _ (B3) Try.size26 ?_; try simp only [Act.put]))
        have qB0 : Blk (W4.setRow (N2) (bcells 64 (mul po ps))) (w.heap.size) 64 26 (ps) := (B0.rowOther (by omega))
        have qB1 : Blk (W4.setRow (N2) (bcells 64 (mul po ps))) (w.heap.size + 1) 64 26 (fun _ => 0) := (B1.rowOther (by omega))
        have qB2 : MapG Try.prog 26 (W4.setRow (N2) (bcells 64 (mul po ps))) (N1) L := (B2.rowOther (by omega))
        have qB3 : Blk (W4.setRow (N2) (bcells 64 (mul po ps))) (N2) 64 26 (mul po ps) := (B3.row (mul po ps))
        have qhb : Below w.heap.size w (W4.setRow (N2) (bcells 64 (mul po ps))) := (below_row hb (by omega) _)
        obtain ⟨W5, hwo⟩ : ∃ v : World, v = (W4.setRow (N2) (bcells 64 (mul po ps))) := ⟨_, rfl⟩
        rw [← hwo] at qB0 qB1 qB2 qB3 qhb ⊢
        clear hwo
        clear B0 B1 B2 B3 hb
        have B0 := qB0
        have B1 := qB1
        have B2 := qB2
        have B3 := qB3
        have hb := qhb
        clear qB0 qB1 qB2 qB3 qhb
        try simp only [Act.put, List.setIfInBounds_toArray, List.set_cons_zero, List.set_cons_succ]
        by_cases h1 : 1 < k
        · have hq : 1 ≤ (k : Int) / 2 := by omega
          have hq2 : 0 < (k : Int) / 2 := by omega
          have HS2 := Lib.hid (HS.out k po ps HP.out h1)
          have HT := Lib.hid (fun W => HT2.out k po ps W HP.out h1)
          obtain ⟨kl, hkl⟩ := Try.keyOfPoly (HB.out k po ps HP.out)
          have HKL := Lib.hid hkl
          have hlk := B2.look Try.keyPoly Try.underlying124 (Try.zeroPoly _) true hkl
          clear hkl h1
          go_upto_region 8 with (fail)
          clear hq2
          rcases hlk with ⟨hrun, hno⟩ | ⟨v, hin, hrun⟩
          · simp only [if_true] at hrun
            have lt_B0 := B0.lt
            have lt_B1 := B1.lt
            have lt_B2 := B2.lt
            have lt_B3 := B3.lt
            go_upto_region 10 with (first | rw [← zero64] | (refine wpList_load_any rfl 26 (.tmp 3) rfl _ rfl 64 26 _ (B0) _ Try.underlying26 rfl Try.size26 ?_) | (at_lookup; refine wpList_look _ rfl _ _ 124 true rfl _ rfl _ rfl (.tuple #[.agg (bcells 64 fun _ => 0), .bool false]) hrun ?_) | (refine wpList_store_blk rfl 26 (.tmp 9) (.tmp 30) rfl _ 64 (fun _ => 0) rfl rfl 26 _ ((Blk.new W5 64 26 (fun _ => 0))) Try.size26 ?_; try simp only [Act.put]; go_upto_region 10 with (fail)))
            have lt_B0 := B0.lt
            have lt_B1 := B1.lt
            have lt_B2 := B2.lt
            have lt_B3 := B3.lt
            have lhb := hb.size
            have qB0 : Blk ((W5.alloc (.cells (bcells 64 fun _ => 0) 26)).setRow (W5.heap.size) (bcells 64 (fun _ => 0))) (w.heap.size) 64 26 (ps) := ((B0.alloc (.cells (bcells 64 fun _ => 0) 26)).rowOther (by omega))
            have qB1 : Blk ((W5.alloc (.cells (bcells 64 fun _ => 0) 26)).setRow (W5.heap.size) (bcells 64 (fun _ => 0))) (w.heap.size + 1) 64 26 (fun _ => 0) := ((B1.alloc (.cells (bcells 64 fun _ => 0) 26)).rowOther (by omega))
            have qB2 : MapG Try.prog 26 ((W5.alloc (.cells (bcells 64 fun _ => 0) 26)).setRow (W5.heap.size) (bcells 64 (fun _ => 0))) (N1) L := ((B2.alloc (.cells (bcells 64 fun _ => 0) 26)).rowOther (by omega))
            have qB3 : Blk ((W5.alloc (.cells (bcells 64 fun _ => 0) 26)).setRow (W5.heap.size) (bcells 64 (fun _ => 0))) (N2) 64 26 (mul po ps) := ((B3.alloc (.cells (bcells 64 fun _ => 0) 26)).rowOther (by omega))
            have qB4 : Blk ((W5.alloc (.cells (bcells 64 fun _ => 0) 26)).setRow (W5.heap.size) (bcells 64 (fun _ => 0))) (W5.heap.size) 64 26 (fun _ => 0) := ((Blk.new W5 64 26 (fun _ => 0)).row (fun _ => 0))
            have qhb : Below w.heap.size w ((W5.alloc (.cells (bcells 64 fun _ => 0) 26)).setRow (W5.heap.size) (bcells 64 (fun _ => 0))) := (below_row (hb.alloc (by have := hb.size; simp; omega) (.cells (bcells 64 fun _ => 0) 26)) (by omega) _)
            obtain ⟨W6, hwo⟩ : ∃ v : World, v = ((W5.alloc (.cells (bcells 64 fun _ => 0) 26)).setRow (W5.heap.size) (bcells 64 (fun _ => 0))) := ⟨_, rfl⟩
            rw [← hwo] at qB0 qB1 qB2 qB3 qB4 qhb ⊢
            clear hwo
            clear B0 B1 B2 B3 hb
            have B0 := qB0
            have B1 := qB1
            have B2 := qB2
            have B3 := qB3
            have B4 := qB4
            have hb := qhb
            clear qB0 qB1 qB2 qB3 qB4 qhb
            obtain ⟨N3, hNN⟩ : ∃ n : Nat, n = W5.heap.size := ⟨_, rfl⟩
            rw [← hNN] at lt_B0 lt_B1 lt_B2 lt_B3 lhb B4 ⊢
            clear hNN
            have zN3_0 := lt_B0
            have zN3_1 := lt_B1
            have zN3_2 := lt_B2
            have zN3_3 := lt_B3
            have zN3 := lhb
            clear lt_B0 lt_B1 lt_B2 lt_B3 lhb
            try simp only [Act.put, List.setIfInBounds_toArray, List.set_cons_zero, List.set_cons_succ]
            clear hrun
            have lt_B0 := B0.lt
            have lt_B1 := B1.lt
            have lt_B2 := B2.lt
            have lt_B3 := B3.lt
            have lt_B4 := B4.lt
            go_upto_region 11 with (first | rw [← zero64] | (refine wpList_load_any rfl 26 (.tmp 3) rfl _ rfl 64 26 _ (B0) _ Try.underlying26 rfl Try.size26 ?_) | (refine wpList_load_any rfl 26 (.tmp 3) rfl _ rfl 64 26 _ (B0) _ Try.underlying26 rfl Try.size26 ?_) | (go_at_call 137; refine (HT.out _ hb).mono ?_; rintro e W7 ⟨rfl, hW7⟩; replace B0 := B0.below hW7 B0.lt; replace B1 := B1.below hW7 B1.lt; replace B2 := B2.below hW7 B2.lt; replace B3 := B3.below hW7 B3.lt; replace B4 := B4.below hW7 B4.lt; replace hb := (hb).trans (hW7.mono (hb).size)) | (refine wpList_store_blk rfl 26 (.tmp 9) (.tmp 37) rfl _ 64 (mul ps ps) rfl rfl 26 _ (B4) Try.size26 ?_; try simp only [Act.put]))
            have qB0 : Blk (W7.setRow (N3) (bcells 64 (mul ps ps))) (w.heap.size) 64 26 (ps) := (B0.rowOther (by omega))
            have qB1 : Blk (W7.setRow (N3) (bcells 64 (mul ps ps))) (w.heap.size + 1) 64 26 (fun _ => 0) := (B1.rowOther (by omega))
            have qB2 : MapG Try.prog 26 (W7.setRow (N3) (bcells 64 (mul ps ps))) (N1) L := (B2.rowOther (by omega))
            have qB3 : Blk (W7.setRow (N3) (bcells 64 (mul ps ps))) (N2) 64 26 (mul po ps) := (B3.rowOther (by omega))
            have qB4 : Blk (W7.setRow (N3) (bcells 64 (mul ps ps))) (N3) 64 26 (mul ps ps) := (B4.row (mul ps ps))
            have qhb : Below w.heap.size w (W7.setRow (N3) (bcells 64 (mul ps ps))) := (below_row hb (by omega) _)
            obtain ⟨W8, hwo⟩ : ∃ v : World, v = (W7.setRow (N3) (bcells 64 (mul ps ps))) := ⟨_, rfl⟩
            rw [← hwo] at qB0 qB1 qB2 qB3 qB4 qhb ⊢
            clear hwo
            clear B0 B1 B2 B3 B4 hb
            have B0 := qB0
            have B1 := qB1
            have B2 := qB2
            have B3 := qB3
            have B4 := qB4
            have hb := qhb
            clear qB0 qB1 qB2 qB3 qB4 qhb
            try simp only [Act.put, List.setIfInBounds_toArray, List.set_cons_zero, List.set_cons_succ]
            obtain ⟨wM, hput, hmn, hgr⟩ := B2.put (val := .agg (bcells 64 (mul ps ps))) Try.keyPoly Try.underlying124 HKL.out hno
            have gB0 : Blk wM (w.heap.size) 64 26 (ps) := B0.grown hgr (by omega)
            have gB1 : Blk wM (w.heap.size + 1) 64 26 (fun _ => 0) := B1.grown hgr (by omega)
            have gB3 : Blk wM (N2) 64 26 (mul po ps) := B3.grown hgr (by omega)
            have gB4 : Blk wM (N3) 64 26 (mul ps ps) := B4.grown hgr (by omega)
            have ghb : Below w.heap.size w wM := hb.grown hgr hb.size (fun j e => by cases e; omega)
            go_upto_region 12 with (first | (refine wpList_load_any rfl 26 (.tmp 3) rfl _ rfl 64 26 _ (B0) _ Try.underlying26 rfl Try.size26 ?_) | (refine wpList_load_any rfl 26 (.tmp 9) rfl _ rfl 64 26 _ (B4) _ Try.underlying26 rfl Try.size26 ?_) | (at_mapUpdate; refine wpList_put _ rfl _ _ _ 124 rfl _ rfl _ rfl _ rfl wM hput ?_; go_upto_region 12 with (fail)))
            clear B0 B1 B2 B3 B4 hb hput hgr hno
            have B0 := gB0
            clear gB0
            have B1 := gB1
            clear gB1
            have B2 := hmn
            clear hmn
            have B3 := gB3
            clear gB3
            have B4 := gB4
            clear gB4
            have hb := ghb
            clear ghb
            have lt_B0 := B0.lt
            have lt_B1 := B1.lt
            have lt_B2 := B2.lt
            have lt_B3 := B3.lt
            have lt_B4 := B4.lt
            go_wp2_with (first | rw [← zero64] | (refine wpList_load_any rfl 26 (.tmp 9) rfl _ rfl 64 26 _ (B4) _ Try.underlying26 rfl Try.size26 ?_) | (refine wpList_store_blk rfl 26 (.tmp 3) (.tmp 41) rfl _ 64 (mul ps ps) rfl rfl 26 _ (B0) Try.size26 ?_; try simp only [Act.put]))
            have qB0 : Blk (wM.setRow (w.heap.size) (bcells 64 (mul ps ps))) (w.heap.size) 64 26 (mul ps ps) := (B0.row (mul ps ps))
            have qB1 : Blk (wM.setRow (w.heap.size) (bcells 64 (mul ps ps))) (w.heap.size + 1) 64 26 (fun _ => 0) := (B1.rowOther (by omega))
            have qB2 : MapG Try.prog 26 (wM.setRow (w.heap.size) (bcells 64 (mul ps ps))) (N1) (L ++ [(.agg (bcells 64 ps), .agg (bcells 64 (mul ps ps)))]) := (B2.rowOther (by omega))
            have qB3 : Blk (wM.setRow (w.heap.size) (bcells 64 (mul ps ps))) (N2) 64 26 (mul po ps) := (B3.rowOther (by omega))
            have qB4 : Blk (wM.setRow (w.heap.size) (bcells 64 (mul ps ps))) (N3) 64 26 (mul ps ps) := (B4.rowOther (by omega))
            have qhb : Below w.heap.size w (wM.setRow (w.heap.size) (bcells 64 (mul ps ps))) := (below_row hb (by omega) _)
            obtain ⟨W9, hwo⟩ : ∃ v : World, v = (wM.setRow (w.heap.size) (bcells 64 (mul ps ps))) := ⟨_, rfl⟩
            rw [← hwo] at qB0 qB1 qB2 qB3 qB4 qhb ⊢
            clear hwo
            clear B0 B1 B2 B3 B4 hb
            have B0 := qB0
            have B1 := qB1
            have B2 := qB2
            have B3 := qB3
            have B4 := qB4
            have hb := qhb
            clear qB0 qB1 qB2 qB3 qB4 qhb
            try simp only [Act.put, List.setIfInBounds_toArray, List.set_cons_zero, List.set_cons_succ]
            go_roundw
            case rel => exact ⟨q, k / 2, mul po ps, mul ps ps, L ++ [(.agg (bcells 64 ps), .agg (bcells 64 (mul ps ps)))], HV, HD.out, by omega, Lib.hid (fun _ => by have := HS2.out; rw [if_pos HO.out] at this; exact this), Lib.hid (by intro q hq; rcases List.mem_append.1 hq with h | h; exact hL.out q h; rw [List.mem_singleton] at h; subst h; exact ⟨ps, rfl, rfl⟩), by rw [show ((k / 2 : Nat) : Int) = (k : Int) / 2 by push_cast; rfl], hb, B0, B1, B2, B3⟩
            case measure => simp [intOf] <;> omega
          · simp only [if_true] at hrun
            obtain rfl : v = .agg (bcells 64 (mul ps ps)) := by
              obtain ⟨x, e1, e2⟩ := hL.out _ hin
              have e3 : (Value.agg (bcells 64 ps)) = .agg (bcells 64 x) := e1
              have e4 : bcells 64 ps = bcells 64 x := by injection e3
              have e5 : v = .agg (bcells 64 (mul x x)) := e2
              rw [e5, HC.out x ps (fun i hi => (bcells_inj e4 i hi).symm)]
            clear hin
            have lt_B0 := B0.lt
            have lt_B1 := B1.lt
            have lt_B2 := B2.lt
            have lt_B3 := B3.lt
            go_upto_region 12 with (first | rw [← zero64] | (refine wpList_load_any rfl 26 (.tmp 3) rfl _ rfl 64 26 _ (B0) _ Try.underlying26 rfl Try.size26 ?_) | (at_lookup; refine wpList_look _ rfl _ _ 124 true rfl _ rfl _ rfl (.tuple #[.agg (bcells 64 (mul ps ps)), .bool true]) hrun ?_) | (refine wpList_store_blk rfl 26 (.tmp 9) (.tmp 30) rfl _ 64 (mul ps ps) rfl rfl 26 _ ((Blk.new W5 64 26 (fun _ => 0))) Try.size26 ?_; try simp only [Act.put]; go_upto_region 12 with (fail)))
            have lt_B0 := B0.lt
            have lt_B1 := B1.lt
            have lt_B2 := B2.lt
            have lt_B3 := B3.lt
            have lhb := hb.size
            have qB0 : Blk ((W5.alloc (.cells (bcells 64 fun _ => 0) 26)).setRow (W5.heap.size) (bcells 64 (mul ps ps))) (w.heap.size) 64 26 (ps) := ((B0.alloc (.cells (bcells 64 fun _ => 0) 26)).rowOther (by omega))
            have qB1 : Blk ((W5.alloc (.cells (bcells 64 fun _ => 0) 26)).setRow (W5.heap.size) (bcells 64 (mul ps ps))) (w.heap.size + 1) 64 26 (fun _ => 0) := ((B1.alloc (.cells (bcells 64 fun _ => 0) 26)).rowOther (by omega))
            have qB2 : MapG Try.prog 26 ((W5.alloc (.cells (bcells 64 fun _ => 0) 26)).setRow (W5.heap.size) (bcells 64 (mul ps ps))) (N1) L := ((B2.alloc (.cells (bcells 64 fun _ => 0) 26)).rowOther (by omega))
            have qB3 : Blk ((W5.alloc (.cells (bcells 64 fun _ => 0) 26)).setRow (W5.heap.size) (bcells 64 (mul ps ps))) (N2) 64 26 (mul po ps) := ((B3.alloc (.cells (bcells 64 fun _ => 0) 26)).rowOther (by omega))
            have qB4 : Blk ((W5.alloc (.cells (bcells 64 fun _ => 0) 26)).setRow (W5.heap.size) (bcells 64 (mul ps ps))) (W5.heap.size) 64 26 (mul ps ps) := ((Blk.new W5 64 26 (fun _ => 0)).row (mul ps ps))
            have qhb : Below w.heap.size w ((W5.alloc (.cells (bcells 64 fun _ => 0) 26)).setRow (W5.heap.size) (bcells 64 (mul ps ps))) := (below_row (hb.alloc (by have := hb.size; simp; omega) (.cells (bcells 64 fun _ => 0) 26)) (by omega) _)
            obtain ⟨W6, hwo⟩ : ∃ v : World, v = ((W5.alloc (.cells (bcells 64 fun _ => 0) 26)).setRow (W5.heap.size) (bcells 64 (mul ps ps))) := ⟨_, rfl⟩
            rw [← hwo] at qB0 qB1 qB2 qB3 qB4 qhb ⊢
            clear hwo
            clear B0 B1 B2 B3 hb
            have B0 := qB0
            have B1 := qB1
            have B2 := qB2
            have B3 := qB3
            have B4 := qB4
            have hb := qhb
            clear qB0 qB1 qB2 qB3 qB4 qhb
            obtain ⟨N3, hNN⟩ : ∃ n : Nat, n = W5.heap.size := ⟨_, rfl⟩
            rw [← hNN] at lt_B0 lt_B1 lt_B2 lt_B3 lhb B4 ⊢
            clear hNN
            have zN3_0 := lt_B0
            have zN3_1 := lt_B1
            have zN3_2 := lt_B2
            have zN3_3 := lt_B3
            have zN3 := lhb
            clear lt_B0 lt_B1 lt_B2 lt_B3 lhb
            try simp only [Act.put, List.setIfInBounds_toArray, List.set_cons_zero, List.set_cons_succ]
            clear hrun
            have lt_B0 := B0.lt
            have lt_B1 := B1.lt
            have lt_B2 := B2.lt
            have lt_B3 := B3.lt
            have lt_B4 := B4.lt
            go_wp2_with (first | rw [← zero64] | (refine wpList_load_any rfl 26 (.tmp 9) rfl _ rfl 64 26 _ (B4) _ Try.underlying26 rfl Try.size26 ?_) | (refine wpList_store_blk rfl 26 (.tmp 3) (.tmp 41) rfl _ 64 (mul ps ps) rfl rfl 26 _ (B0) Try.size26 ?_; try simp only [Act.put]))
            have qB0 : Blk (W6.setRow (w.heap.size) (bcells 64 (mul ps ps))) (w.heap.size) 64 26 (mul ps ps) := (B0.row (mul ps ps))
            have qB1 : Blk (W6.setRow (w.heap.size) (bcells 64 (mul ps ps))) (w.heap.size + 1) 64 26 (fun _ => 0) := (B1.rowOther (by omega))
            have qB2 : MapG Try.prog 26 (W6.setRow (w.heap.size) (bcells 64 (mul ps ps))) (N1) L := (B2.rowOther (by omega))
            have qB3 : Blk (W6.setRow (w.heap.size) (bcells 64 (mul ps ps))) (N2) 64 26 (mul po ps) := (B3.rowOther (by omega))
            have qB4 : Blk (W6.setRow (w.heap.size) (bcells 64 (mul ps ps))) (N3) 64 26 (mul ps ps) := (B4.rowOther (by omega))
            have qhb : Below w.heap.size w (W6.setRow (w.heap.size) (bcells 64 (mul ps ps))) := (below_row hb (by omega) _)
            obtain ⟨W7, hwo⟩ : ∃ v : World, v = (W6.setRow (w.heap.size) (bcells 64 (mul ps ps))) := ⟨_, rfl⟩
            rw [← hwo] at qB0 qB1 qB2 qB3 qB4 qhb ⊢
            clear hwo
            clear B0 B1 B2 B3 B4 hb
            have B0 := qB0
            have B1 := qB1
            have B2 := qB2
            have B3 := qB3
            have B4 := qB4
            have hb := qhb
            clear qB0 qB1 qB2 qB3 qB4 qhb
            try simp only [Act.put, List.setIfInBounds_toArray, List.set_cons_zero, List.set_cons_succ]
            go_roundw
            case rel => exact ⟨q, k / 2, mul po ps, mul ps ps, L, HV, HD.out, by omega, Lib.hid (fun _ => by have := HS2.out; rw [if_pos HO.out] at this; exact this), hL, by rw [show ((k / 2 : Nat) : Int) = (k : Int) / 2 by push_cast; rfl], hb, B0, B1, B2, B3⟩
            case measure => simp [intOf] <;> omega
        · have hq : (k : Int) / 2 = 0 := by omega
          have hq2 : ((k : Int).tdiv 2) = 0 := by rw [Int.tdiv_eq_ediv_of_nonneg (by omega)]; exact hq
          have HE := Lib.hid (show k / 2 = 0 by omega)
          clear h1
          go_wp2_with fail
          go_roundw
          case rel => exact ⟨q, 0, mul po ps, ps, L, Lib.hid (HV.out.trans (by rw [HE.out, pgR_z, pgR_z])), Nat.pow_pos (by omega), by omega, Lib.hid (fun h => absurd h (by omega)), hL, by simp, hb, B0, B1, B2, B3⟩
          case measure => simp [intOf] <;> omega
      · have hb1 : (((k : Int) % 2) == 1) = false := beq_eq_false_iff_ne.2 (by omega)
        have hb2 : (((k : Int).tmod 2) == 1) = false := by rw [Int.tmod_eq_emod_of_nonneg (by omega)]; exact hb1
        have HO := Lib.hid hodd
        have HV := Lib.hid (hP.out.trans (pgR_even hz hodd))
        have HD := Lib.hid (show k / 2 < 2 ^ q by have := HKQ.out; rw [Nat.pow_succ] at this; omega)
        clear hodd hz hP
        go_upto_region 6 with (fail)
        clear hb1 hb2
        by_cases h1 : 1 < k
        · have hq : 1 ≤ (k : Int) / 2 := by omega
          have hq2 : 0 < (k : Int) / 2 := by omega
          have HS2 := Lib.hid (HS.out k po ps HP.out h1)
          have HT := Lib.hid (fun W => HT2.out k po ps W HP.out h1)
          obtain ⟨kl, hkl⟩ := Try.keyOfPoly (HB.out k po ps HP.out)
          have HKL := Lib.hid hkl
          have hlk := B2.look Try.keyPoly Try.underlying124 (Try.zeroPoly _) true hkl
          clear hkl h1
          go_upto_region 8 with (fail)
          clear hq2
          rcases hlk with ⟨hrun, hno⟩ | ⟨v, hin, hrun⟩
          · simp only [if_true] at hrun
            have lt_B0 := B0.lt
            have lt_B1 := B1.lt
            have lt_B2 := B2.lt
            have lt_B3 := B3.lt
            go_upto_region 10 with (first | rw [← zero64] | (refine wpList_load_any rfl 26 (.tmp 3) rfl _ rfl 64 26 _ (B0) _ Try.underlying26 rfl Try.size26 ?_) | (at_lookup; refine wpList_look _ rfl _ _ 124 true rfl _ rfl _ rfl (.tuple #[.agg (bcells 64 fun _ => 0), .bool false]) hrun ?_) | (refine wpList_store_blk rfl 26 (.tmp 9) (.tmp 30) rfl _ 64 (fun _ => 0) rfl rfl 26 _ ((Blk.new wr 64 26 (fun _ => 0))) Try.size26 ?_; try simp only [Act.put]; go_upto_region 10 with (fail)))
            have lt_B0 := B0.lt
            have lt_B1 := B1.lt
            have lt_B2 := B2.lt
            have lt_B3 := B3.lt
            have lhb := hb.size
            have qB0 : Blk ((wr.alloc (.cells (bcells 64 fun _ => 0) 26)).setRow (wr.heap.size) (bcells 64 (fun _ => 0))) (w.heap.size) 64 26 (ps) := ((B0.alloc (.cells (bcells 64 fun _ => 0) 26)).rowOther (by omega))
            have qB1 : Blk ((wr.alloc (.cells (bcells 64 fun _ => 0) 26)).setRow (wr.heap.size) (bcells 64 (fun _ => 0))) (w.heap.size + 1) 64 26 (fun _ => 0) := ((B1.alloc (.cells (bcells 64 fun _ => 0) 26)).rowOther (by omega))
            have qB2 : MapG Try.prog 26 ((wr.alloc (.cells (bcells 64 fun _ => 0) 26)).setRow (wr.heap.size) (bcells 64 (fun _ => 0))) (N1) L := ((B2.alloc (.cells (bcells 64 fun _ => 0) 26)).rowOther (by omega))
            have qB3 : Blk ((wr.alloc (.cells (bcells 64 fun _ => 0) 26)).setRow (wr.heap.size) (bcells 64 (fun _ => 0))) (N2) 64 26 (po) := ((B3.alloc (.cells (bcells 64 fun _ => 0) 26)).rowOther (by omega))
            have qB4 : Blk ((wr.alloc (.cells (bcells 64 fun _ => 0) 26)).setRow (wr.heap.size) (bcells 64 (fun _ => 0))) (wr.heap.size) 64 26 (fun _ => 0) := ((Blk.new wr 64 26 (fun _ => 0)).row (fun _ => 0))
            have qhb : Below w.heap.size w ((wr.alloc (.cells (bcells 64 fun _ => 0) 26)).setRow (wr.heap.size) (bcells 64 (fun _ => 0))) := (below_row (hb.alloc (by have := hb.size; simp; omega) (.cells (bcells 64 fun _ => 0) 26)) (by omega) _)
            obtain ⟨W4, hwo⟩ : ∃ v : World, v = ((wr.alloc (.cells (bcells 64 fun _ => 0) 26)).setRow (wr.heap.size) (bcells 64 (fun _ => 0))) := ⟨_, rfl⟩
            rw [← hwo] at qB0 qB1 qB2 qB3 qB4 qhb ⊢
            clear hwo
            clear B0 B1 B2 B3 hb
            have B0 := qB0
            have B1 := qB1
            have B2 := qB2
            have B3 := qB3
            have B4 := qB4
            have hb := qhb
            clear qB0 qB1 qB2 qB3 qB4 qhb
            obtain ⟨N3, hNN⟩ : ∃ n : Nat, n = wr.heap.size := ⟨_, rfl⟩
            rw [← hNN] at lt_B0 lt_B1 lt_B2 lt_B3 lhb B4 ⊢
            clear hNN
            have zN3_0 := lt_B0
            have zN3_1 := lt_B1
            have zN3_2 := lt_B2
            have zN3_3 := lt_B3
            have zN3 := lhb
            clear lt_B0 lt_B1 lt_B2 lt_B3 lhb
            try simp only [Act.put, List.setIfInBounds_toArray, List.set_cons_zero, List.set_cons_succ]
            clear hrun
            have lt_B0 := B0.lt
            have lt_B1 := B1.lt
            have lt_B2 := B2.lt
            have lt_B3 := B3.lt
            have lt_B4 := B4.lt
            go_upto_region 11 with (first | rw [← zero64] | (refine wpList_load_any rfl 26 (.tmp 3) rfl _ rfl 64 26 _ (B0) _ Try.underlying26 rfl Try.size26 ?_) | (refine wpList_load_any rfl 26 (.tmp 3) rfl _ rfl 64 26 _ (B0) _ Try.underlying26 rfl Try.size26 ?_) | (go_at_call 137; refine (HT.out _ hb).mono ?_; rintro e W5 ⟨rfl, hW5⟩; replace B0 := B0.below hW5 B0.lt; replace B1 := B1.below hW5 B1.lt; replace B2 := B2.below hW5 B2.lt; replace B3 := B3.below hW5 B3.lt; replace B4 := B4.below hW5 B4.lt; replace hb := (hb).trans (hW5.mono (hb).size)) | (refine wpList_store_blk rfl 26 (.tmp 9) (.tmp 37) rfl _ 64 (mul ps ps) rfl rfl 26 _ (B4) Try.size26 ?_; try simp only [Act.put]))
            have qB0 : Blk (W5.setRow (N3) (bcells 64 (mul ps ps))) (w.heap.size) 64 26 (ps) := (B0.rowOther (by omega))
            have qB1 : Blk (W5.setRow (N3) (bcells 64 (mul ps ps))) (w.heap.size + 1) 64 26 (fun _ => 0) := (B1.rowOther (by omega))
            have qB2 : MapG Try.prog 26 (W5.setRow (N3) (bcells 64 (mul ps ps))) (N1) L := (B2.rowOther (by omega))
            have qB3 : Blk (W5.setRow (N3) (bcells 64 (mul ps ps))) (N2) 64 26 (po) := (B3.rowOther (by omega))
            have qB4 : Blk (W5.setRow (N3) (bcells 64 (mul ps ps))) (N3) 64 26 (mul ps ps) := (B4.row (mul ps ps))
            have qhb : Below w.heap.size w (W5.setRow (N3) (bcells 64 (mul ps ps))) := (below_row hb (by omega) _)
            obtain ⟨W6, hwo⟩ : ∃ v : World, v = (W5.setRow (N3) (bcells 64 (mul ps ps))) := ⟨_, rfl⟩
            rw [← hwo] at qB0 qB1 qB2 qB3 qB4 qhb ⊢
            clear hwo
            clear B0 B1 B2 B3 B4 hb
            have B0 := qB0
            have B1 := qB1
            have B2 := qB2
            have B3 := qB3
            have B4 := qB4
            have hb := qhb
            clear qB0 qB1 qB2 qB3 qB4 qhb
            try simp only [Act.put, List.setIfInBounds_toArray, List.set_cons_zero, List.set_cons_succ]
            obtain ⟨wM, hput, hmn, hgr⟩ := B2.put (val := .agg (bcells 64 (mul ps ps))) Try.keyPoly Try.underlying124 HKL.out hno
            have gB0 : Blk wM (w.heap.size) 64 26 (ps) := B0.grown hgr (by omega)
            have gB1 : Blk wM (w.heap.size + 1) 64 26 (fun _ => 0) := B1.grown hgr (by omega)
            have gB3 : Blk wM (N2) 64 26 (po) := B3.grown hgr (by omega)
            have gB4 : Blk wM (N3) 64 26 (mul ps ps) := B4.grown hgr (by omega)
            have ghb : Below w.heap.size w wM := hb.grown hgr hb.size (fun j e => by cases e; omega)
            go_upto_region 12 with (first | (refine wpList_load_any rfl 26 (.tmp 3) rfl _ rfl 64 26 _ (B0) _ Try.underlying26 rfl Try.size26 ?_) | (refine wpList_load_any rfl 26 (.tmp 9) rfl _ rfl 64 26 _ (B4) _ Try.underlying26 rfl Try.size26 ?_) | (at_mapUpdate; refine wpList_put _ rfl _ _ _ 124 rfl _ rfl _ rfl _ rfl wM hput ?_; go_upto_region 12 with (fail)))
            clear B0 B1 B2 B3 B4 hb hput hgr hno
            have B0 := gB0
            clear gB0
            have B1 := gB1
            clear gB1
            have B2 := hmn
            clear hmn
            have B3 := gB3
            clear gB3
            have B4 := gB4
            clear gB4
            have hb := ghb
            clear ghb
            have lt_B0 := B0.lt
            have lt_B1 := B1.lt
            have lt_B2 := B2.lt
            have lt_B3 := B3.lt
            have lt_B4 := B4.lt
            go_wp2_with (first | rw [← zero64] | (refine wpList_load_any rfl 26 (.tmp 9) rfl _ rfl 64 26 _ (B4) _ Try.underlying26 rfl Try.size26 ?_) | (refine wpList_store_blk rfl 26 (.tmp 3) (.tmp 41) rfl _ 64 (mul ps ps) rfl rfl 26 _ (B0) Try.size26 ?_; try simp only [Act.put]))
            have qB0 : Blk (wM.setRow (w.heap.size) (bcells 64 (mul ps ps))) (w.heap.size) 64 26 (mul ps ps) := (B0.row (mul ps ps))
            have qB1 : Blk (wM.setRow (w.heap.size) (bcells 64 (mul ps ps))) (w.heap.size + 1) 64 26 (fun _ => 0) := (B1.rowOther (by omega))
            have qB2 : MapG Try.prog 26 (wM.setRow (w.heap.size) (bcells 64 (mul ps ps))) (N1) (L ++ [(.agg (bcells 64 ps), .agg (bcells 64 (mul ps ps)))]) := (B2.rowOther (by omega))
            have qB3 : Blk (wM.setRow (w.heap.size) (bcells 64 (mul ps ps))) (N2) 64 26 (po) := (B3.rowOther (by omega))
            have qB4 : Blk (wM.setRow (w.heap.size) (bcells 64 (mul ps ps))) (N3) 64 26 (mul ps ps) := (B4.rowOther (by omega))
            have qhb : Below w.heap.size w (wM.setRow (w.heap.size) (bcells 64 (mul ps ps))) := (below_row hb (by omega) _)
            obtain ⟨W7, hwo⟩ : ∃ v : World, v = (wM.setRow (w.heap.size) (bcells 64 (mul ps ps))) := ⟨_, rfl⟩
            rw [← hwo] at qB0 qB1 qB2 qB3 qB4 qhb ⊢
            clear hwo
            clear B0 B1 B2 B3 B4 hb
            have B0 := qB0
            have B1 := qB1
            have B2 := qB2
            have B3 := qB3
            have B4 := qB4
            have hb := qhb
            clear qB0 qB1 qB2 qB3 qB4 qhb
            try simp only [Act.put, List.setIfInBounds_toArray, List.set_cons_zero, List.set_cons_succ]
            go_roundw
            case rel => exact ⟨q, k / 2, po, mul ps ps, L ++ [(.agg (bcells 64 ps), .agg (bcells 64 (mul ps ps)))], HV, HD.out, by omega, Lib.hid (fun _ => by have := HS2.out; rw [if_neg HO.out] at this; exact this), Lib.hid (by intro q hq; rcases List.mem_append.1 hq with h | h; exact hL.out q h; rw [List.mem_singleton] at h; subst h; exact ⟨ps, rfl, rfl⟩), by rw [show ((k / 2 : Nat) : Int) = (k : Int) / 2 by push_cast; rfl], hb, B0, B1, B2, B3⟩
            case measure => simp [intOf] <;> omega
          · simp only [if_true] at hrun
            obtain rfl : v = .agg (bcells 64 (mul ps ps)) := by
              obtain ⟨x, e1, e2⟩ := hL.out _ hin
              have e3 : (Value.agg (bcells 64 ps)) = .agg (bcells 64 x) := e1
              have e4 : bcells 64 ps = bcells 64 x := by injection e3
              have e5 : v = .agg (bcells 64 (mul x x)) := e2
              rw [e5, HC.out x ps (fun i hi => (bcells_inj e4 i hi).symm)]
            clear hin
            have lt_B0 := B0.lt
            have lt_B1 := B1.lt
            have lt_B2 := B2.lt
            have lt_B3 := B3.lt
            go_upto_region 12 with (first | rw [← zero64] | (refine wpList_load_any rfl 26 (.tmp 3) rfl _ rfl 64 26 _ (B0) _ Try.underlying26 rfl Try.size26 ?_) | (at_lookup; refine wpList_look _ rfl _ _ 124 true rfl _ rfl _ rfl (.tuple #[.agg (bcells 64 (mul ps ps)), .bool true]) hrun ?_) | (refine wpList_store_blk rfl 26 (.tmp 9) (.tmp 30) rfl _ 64 (mul ps ps) rfl rfl 26 _ ((Blk.new wr 64 26 (fun _ => 0))) Try.size26 ?_; try simp only [Act.put]; go_upto_region 12 with (fail)))
            have lt_B0 := B0.lt
            have lt_B1 := B1.lt
            have lt_B2 := B2.lt
            have lt_B3 := B3.lt
            have lhb := hb.size
            have qB0 : Blk ((wr.alloc (.cells (bcells 64 fun _ => 0) 26)).setRow (wr.heap.size) (bcells 64 (mul ps ps))) (w.heap.size) 64 26 (ps) := ((B0.alloc (.cells (bcells 64 fun _ => 0) 26)).rowOther (by omega))
            have qB1 : Blk ((wr.alloc (.cells (bcells 64 fun _ => 0) 26)).setRow (wr.heap.size) (bcells 64 (mul ps ps))) (w.heap.size + 1) 64 26 (fun _ => 0) := ((B1.alloc (.cells (bcells 64 fun _ => 0) 26)).rowOther (by omega))
            have qB2 : MapG Try.prog 26 ((wr.alloc (.cells (bcells 64 fun _ => 0) 26)).setRow (wr.heap.size) (bcells 64 (mul ps ps))) (N1) L := ((B2.alloc (.cells (bcells 64 fun _ => 0) 26)).rowOther (by omega))
            have qB3 : Blk ((wr.alloc (.cells (bcells 64 fun _ => 0) 26)).setRow (wr.heap.size) (bcells 64 (mul ps ps))) (N2) 64 26 (po) := ((B3.alloc (.cells (bcells 64 fun _ => 0) 26)).rowOther (by omega))
            have qB4 : Blk ((wr.alloc (.cells (bcells 64 fun _ => 0) 26)).setRow (wr.heap.size) (bcells 64 (mul ps ps))) (wr.heap.size) 64 26 (mul ps ps) := ((Blk.new wr 64 26 (fun _ => 0)).row (mul ps ps))
            have qhb : Below w.heap.size w ((wr.alloc (.cells (bcells 64 fun _ => 0) 26)).setRow (wr.heap.size) (bcells 64 (mul ps ps))) := (below_row (hb.alloc (by have := hb.size; simp; omega) (.cells (bcells 64 fun _ => 0) 26)) (by omega) _)
            obtain ⟨W4, hwo⟩ : ∃ v : World, v = ((wr.alloc (.cells (bcells 64 fun _ => 0) 26)).setRow (wr.heap.size) (bcells 64 (mul ps ps))) := ⟨_, rfl⟩
            rw [← hwo] at qB0 qB1 qB2 qB3 qB4 qhb ⊢
            clear hwo
            clear B0 B1 B2 B3 hb
            have B0 := qB0
            have B1 := qB1
            have B2 := qB2
            have B3 := qB3
            have B4 := qB4
            have hb := qhb
            clear qB0 qB1 qB2 qB3 qB4 qhb
            obtain ⟨N3, hNN⟩ : ∃ n : Nat, n = wr.heap.size := ⟨_, rfl⟩
            rw [← hNN] at lt_B0 lt_B1 lt_B2 lt_B3 lhb B4 ⊢
            clear hNN
            have zN3_0 := lt_B0
            have zN3_1 := lt_B1
            have zN3_2 := lt_B2
            have zN3_3 := lt_B3
            have zN3 := lhb
            clear lt_B0 lt_B1 lt_B2 lt_B3 lhb
            try simp only [Act.put, List.setIfInBounds_toArray, List.set_cons_zero, List.set_cons_succ]
            clear hrun
            have lt_B0 := B0.lt
            have lt_B1 := B1.lt
            have lt_B2 := B2.lt
            have lt_B3 := B3.lt
            have lt_B4 := B4.lt
            go_wp2_with (first | rw [← zero64] | (refine wpList_load_any rfl 26 (.tmp 9) rfl _ rfl 64 26 _ (B4) _ Try.underlying26 rfl Try.size26 ?_) | (refine wpList_store_blk rfl 26 (.tmp 3) (.tmp 41) rfl _ 64 (mul ps ps) rfl rfl 26 _ (B0) Try.size26 ?_; try simp only [Act.put]))
            have qB0 : Blk (W4.setRow (w.heap.size) (bcells 64 (mul ps ps))) (w.heap.size) 64 26 (mul ps ps) := (B0.row (mul ps ps))
            have qB1 : Blk (W4.setRow (w.heap.size) (bcells 64 (mul ps ps))) (w.heap.size + 1) 64 26 (fun _ => 0) := (B1.rowOther (by omega))
            have qB2 : MapG Try.prog 26 (W4.setRow (w.heap.size) (bcells 64 (mul ps ps))) (N1) L := (B2.rowOther (by omega))
            have qB3 : Blk (W4.setRow (w.heap.size) (bcells 64 (mul ps ps))) (N2) 64 26 (po) := (B3.rowOther (by omega))
            have qB4 : Blk (W4.setRow (w.heap.size) (bcells 64 (mul ps ps))) (N3) 64 26 (mul ps ps) := (B4.rowOther (by omega))
            have qhb : Below w.heap.size w (W4.setRow (w.heap.size) (bcells 64 (mul ps ps))) := (below_row hb (by omega) _)
            obtain ⟨W5, hwo⟩ : ∃ v : World, v = (W4.setRow (w.heap.size) (bcells 64 (mul ps ps))) := ⟨_, rfl⟩
            rw [← hwo] at qB0 qB1 qB2 qB3 qB4 qhb ⊢
            clear hwo
            clear B0 B1 B2 B3 B4 hb
            have B0 := qB0
            have B1 := qB1
            have B2 := qB2
            have B3 := qB3
            have B4 := qB4
            have hb := qhb
            clear qB0 qB1 qB2 qB3 qB4 qhb
            try simp only [Act.put, List.setIfInBounds_toArray, List.set_cons_zero, List.set_cons_succ]
            go_roundw
            case rel => exact ⟨q, k / 2, po, mul ps ps, L, HV, HD.out, by omega, Lib.hid (fun _ => by have := HS2.out; rw [if_neg HO.out] at this; exact this), hL, by rw [show ((k / 2 : Nat) : Int) = (k : Int) / 2 by push_cast; rfl], hb, B0, B1, B2, B3⟩
            case measure => simp [intOf] <;> omega
        · have hq : (k : Int) / 2 = 0 := by omega
          have hq2 : ((k : Int).tdiv 2) = 0 := by rw [Int.tdiv_eq_ediv_of_nonneg (by omega)]; exact hq
          have HE := Lib.hid (show k / 2 = 0 by omega)
          clear h1
          go_wp2_with fail
          go_roundw
          case rel => exact ⟨q, 0, po, ps, L, Lib.hid (HV.out.trans (by rw [HE.out, pgR_z, pgR_z])), Nat.pow_pos (by omega), by omega, Lib.hid (fun h => absurd h (by omega)), hL, by simp, hb, B0, B1, B2, B3⟩
          case measure => simp [intOf] <;> omega
end Go.Proofs.Ytpeehpaghdddgaa
