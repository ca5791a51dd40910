/-
  Walks: powers of polynomials.
-/
import Derived.Test.YtbjpkmbhbpcbgaaPc
namespace Go.Proofs.Ytbjpkmbhbpcbgaa
open Go Go.RowKit
set_option linter.unusedVariables false
set_option linter.unusedSimpArgs false
attribute [local irreducible] deg invN dS qS stp stpr quoP resP oneP upP upF hmR mmP shA addK pgR mmC pmI prd exP cpN
set_option maxRecDepth 100000 in
set_option maxHeartbeats 1600000 in
theorem timesPow_any (p : Nat) (f g : Nat → Nat) (bp : Nat) (w : World) (p2 : 2 ≤ p) (p7 : p ≤ 7) (lf : ∀ k, k < 64 → f k < p) (lg : ∀ k, k < 64 → g k < p)
    (B0 : One w bp 2 (.int .i64 (p : Int))) :
    Calls Try.prog 79 #[.agg (bcells 64 f), .agg (bcells 64 g), .pointer (some ⟨bp, 0, none⟩)] w fun e w' => e = .returned (.agg (bcells 64 (prd p f g))) ∧ Below w.heap.size w w' := by
  have HRP := Lib.hid (fun W => product_any p f g W p2 p7 lf lg)
  have zx_0 := B0.lt
  go_enter Try.func79, Try.ntmps79
  go_upto_region 1 with (fail)
  rw [← zero64]
  obtain ⟨W1, hwo⟩ : ∃ v : World, v = (((w.alloc (.cells (bcells 64 (f)) 23)).alloc (.cells (bcells 64 (g)) 23)).alloc (.cells (bcells 64 fun _ => 0) 23)) := ⟨_, rfl⟩
  have B1 : Blk W1 (w.heap.size) 64 23 (f) := by subst hwo; have := (((Blk.new w 64 23 (f)).alloc (.cells (bcells 64 (g)) 23)).alloc (.cells (bcells 64 fun _ => 0) 23)); simpa using this
  have B2 : Blk W1 (w.heap.size + 1) 64 23 (g) := by subst hwo; have := ((Blk.new (w.alloc (.cells (bcells 64 (f)) 23)) 64 23 (g)).alloc (.cells (bcells 64 fun _ => 0) 23)); simpa using this
  have B3 : Blk W1 (w.heap.size + 1 + 1) 64 23 (fun _ => 0) := by subst hwo; have := (Blk.new ((w.alloc (.cells (bcells 64 (f)) 23)).alloc (.cells (bcells 64 (g)) 23)) 64 23 (fun _ => 0)); simpa using this
  replace B0 : One W1 (bp) 2 (.int .i64 (p : Int)) := by subst hwo; exact (((B0.alloc (.cells (bcells 64 (f)) 23)).alloc (.cells (bcells 64 (g)) 23)).alloc (.cells (bcells 64 fun _ => 0) 23))
  have hb : Below w.heap.size w W1 := by subst hwo; exact ((((Below.refl _ _).alloc (Nat.le_refl _) _).alloc (by simp) _).alloc (by simp; omega) _)
  rw [← hwo]
  clear hwo
  have lt_B0 := B0.lt
  have lt_B1 := B1.lt
  have lt_B2 := B2.lt
  have lt_B3 := B3.lt
  go_wp2_with (first | rw [← zero64] | (refine wpList_load_one rfl 2 (.tmp 2) rfl _ rfl 2 ((.int .i64 (p : Int))) (B0) _ Try.underlying2 rfl ?_) | (refine wpList_load_any rfl 23 (.tmp 3) rfl _ rfl 64 23 _ (B1) _ Try.underlying23 rfl Try.size23 ?_) | (refine wpList_load_any rfl 23 (.tmp 4) rfl _ rfl 64 23 _ (B2) _ Try.underlying23 rfl Try.size23 ?_) | (go_at_call 80; refine (HRP.out _).mono ?_; rintro e W2 ⟨rfl, hW2⟩; replace B0 := B0.below hW2 B0.lt; replace B1 := B1.below hW2 B1.lt; replace B2 := B2.below hW2 B2.lt; replace B3 := B3.below hW2 B3.lt; replace hb := (hb).trans (hW2.mono (hb).size)) | (refine wpList_store_blk rfl 23 (.tmp 5) (.tmp 9) rfl _ 64 (prd p f g) rfl rfl 23 _ (B3) Try.size23 ?_; try simp only [Act.put]))
  have qB0 : One (W2.setRow (w.heap.size + 1 + 1) (bcells 64 (prd p f g))) (bp) 2 (.int .i64 (p : Int)) := (B0.rowOther (by omega))
  have qB1 : Blk (W2.setRow (w.heap.size + 1 + 1) (bcells 64 (prd p f g))) (w.heap.size) 64 23 (f) := (B1.rowOther (by omega))
  have qB2 : Blk (W2.setRow (w.heap.size + 1 + 1) (bcells 64 (prd p f g))) (w.heap.size + 1) 64 23 (g) := (B2.rowOther (by omega))
  have qB3 : Blk (W2.setRow (w.heap.size + 1 + 1) (bcells 64 (prd p f g))) (w.heap.size + 1 + 1) 64 23 (prd p f g) := (B3.row (prd p f g))
  have qhb : Below w.heap.size w (W2.setRow (w.heap.size + 1 + 1) (bcells 64 (prd p f g))) := (below_row hb (by omega) _)
  obtain ⟨W3, hwo⟩ : ∃ v : World, v = (W2.setRow (w.heap.size + 1 + 1) (bcells 64 (prd p f g))) := ⟨_, rfl⟩
  rw [← hwo] at qB0 qB1 qB2 qB3 qhb ⊢
  clear hwo
  clear B0 B1 B2 B3 hb
  have B0 := qB0
  have B1 := qB1
  have B2 := qB2
  have B3 := qB3
  have hb := qhb
  clear qB0 qB1 qB2 qB3 qhb
  try simp only [Act.put, List.setIfInBounds_toArray, List.set_cons_zero, List.set_cons_succ]
  refine bodyPost_ret (results_blk rfl _ _ _ 64 23 5 _ rfl B3 Try.underlying23 Try.size23) rfl ⟨rfl, hb⟩
set_option maxRecDepth 100000 in
set_option maxHeartbeats 1600000 in
theorem powerMul (mul : (Nat → Nat) → (Nat → Nat) → (Nat → Nat)) (P : Nat → (Nat → Nat) → (Nat → Nat) → Prop) (c1 : Value) (f : Nat → Nat) (k0 : Nat) (w : World)
    (HT1 : Hid (∀ k r s W, P k r s → k % 2 = 1 → Below w.heap.size w W → Calls Try.prog 79 #[.agg (bcells 64 r), .agg (bcells 64 s), c1] W fun e w' => e = .returned (.agg (bcells 64 (mul r s))) ∧ Below W.heap.size W w'))
    (HT2 : Hid (∀ k r s W, P k r s → 1 < k → Below w.heap.size w W → Calls Try.prog 79 #[.agg (bcells 64 s), .agg (bcells 64 s), c1] W fun e w' => e = .returned (.agg (bcells 64 (mul s s))) ∧ Below W.heap.size W w'))
    (HS : Hid (∀ k r s, P k r s → 1 < k → P (k / 2) (if k % 2 = 1 then mul r s else r) (mul s s)))
    (HC : Hid (∀ x y, (∀ i, i < 64 → x i = y i) → mul x x = mul y y)) (HB : Hid (∀ k r s, P k r s → ∀ i, i < 64 → s i < 256)) (H0 : 0 < k0 → P k0 oneP f) (hk0 : (k0 : Int) ≤ 1000000000000) :
    Calls Try.prog 81 #[.agg (bcells 64 f), .int .i64 (k0 : Int), .func (.func 79) #[] #[c1]] w fun e w' => e = .returned (.agg (bcells 64 (pgR mul 64 k0 oneP f))) ∧ Below w.heap.size w w' := by
  have hmm := @run_makeMap Try.prog
  go_enter Try.func81, Try.ntmps81
  go_upto_region 1 with (fail)
  rw [← zero64]
  obtain ⟨W1, hwo⟩ : ∃ v : World, v = ((w.alloc (.cells (bcells 64 (f)) 23)).alloc (.cells (bcells 64 fun _ => 0) 23)) := ⟨_, rfl⟩
  have B0 : Blk W1 (w.heap.size) 64 23 (f) := by subst hwo; have := ((Blk.new w 64 23 (f)).alloc (.cells (bcells 64 fun _ => 0) 23)); simpa using this
  have B1 : Blk W1 (w.heap.size + 1) 64 23 (fun _ => 0) := by subst hwo; have := (Blk.new (w.alloc (.cells (bcells 64 (f)) 23)) 64 23 (fun _ => 0)); simpa using this
  have hb : Below w.heap.size w W1 := by subst hwo; exact (((Below.refl _ _).alloc (Nat.le_refl _) _).alloc (by simp) _)
  rw [← hwo]
  clear hwo
  go_upto_region 2 with (fail)
  have lt_B0 := B0.lt
  have lt_B1 := B1.lt
  have lhb := hb.size
  have qB0 : Blk (W1.alloc (.map #[] 0)) (w.heap.size) 64 23 (f) := (B0.alloc (.map #[] 0))
  have qB1 : Blk (W1.alloc (.map #[] 0)) (w.heap.size + 1) 64 23 (fun _ => 0) := (B1.alloc (.map #[] 0))
  have qB2 : MapG Try.prog 23 (W1.alloc (.map #[] 0)) (W1.heap.size) [] := (MapG.new Try.prog 23 W1)
  have qhb : Below w.heap.size w (W1.alloc (.map #[] 0)) := (hb.alloc hb.size (.map #[] 0))
  obtain ⟨W2, hwo⟩ : ∃ v : World, v = (W1.alloc (.map #[] 0)) := ⟨_, rfl⟩
  rw [← hwo] at qB0 qB1 qB2 qhb ⊢
  clear hwo
  clear B0 B1 hb
  have B0 := qB0
  have B1 := qB1
  have B2 := qB2
  have hb := qhb
  clear qB0 qB1 qB2 qhb
  obtain ⟨N1, hNN⟩ : ∃ n : Nat, n = W1.heap.size := ⟨_, rfl⟩
  rw [← hNN] at lt_B0 lt_B1 lhb B2 ⊢
  clear hNN
  have zN1_0 := lt_B0
  have zN1_1 := lt_B1
  have zN1 := lhb
  clear lt_B0 lt_B1 lhb
  try simp only [Act.put, List.setIfInBounds_toArray, List.set_cons_zero, List.set_cons_succ]
  have lt_B0 := B0.lt
  have lt_B1 := B1.lt
  have lt_B2 := B2.lt
  go_wp2_with (first | rw [← zero64] | (refine wpList_build_of rfl 23 _ rfl (bcells 64 oneP) (by rw [Array.toList_map]; exact built_one) ?_) | (refine wpList_store_blk rfl 23 (.tmp 8) (.tmp 12) rfl _ 64 (oneP) rfl rfl 23 _ ((Blk.new W2 64 23 (fun _ => 0))) Try.size23 ?_; try simp only [Act.put]))
  have lt_B0 := B0.lt
  have lt_B1 := B1.lt
  have lt_B2 := B2.lt
  have lhb := hb.size
  have qB0 : Blk ((W2.alloc (.cells (bcells 64 fun _ => 0) 23)).setRow (W2.heap.size) (bcells 64 (oneP))) (w.heap.size) 64 23 (f) := ((B0.alloc (.cells (bcells 64 fun _ => 0) 23)).rowOther (by omega))
  have qB1 : Blk ((W2.alloc (.cells (bcells 64 fun _ => 0) 23)).setRow (W2.heap.size) (bcells 64 (oneP))) (w.heap.size + 1) 64 23 (fun _ => 0) := ((B1.alloc (.cells (bcells 64 fun _ => 0) 23)).rowOther (by omega))
  have qB2 : MapG Try.prog 23 ((W2.alloc (.cells (bcells 64 fun _ => 0) 23)).setRow (W2.heap.size) (bcells 64 (oneP))) (N1) [] := ((B2.alloc (.cells (bcells 64 fun _ => 0) 23)).rowOther (by omega))
  have qB3 : Blk ((W2.alloc (.cells (bcells 64 fun _ => 0) 23)).setRow (W2.heap.size) (bcells 64 (oneP))) (W2.heap.size) 64 23 (oneP) := ((Blk.new W2 64 23 (fun _ => 0)).row (oneP))
  have qhb : Below w.heap.size w ((W2.alloc (.cells (bcells 64 fun _ => 0) 23)).setRow (W2.heap.size) (bcells 64 (oneP))) := (below_row (hb.alloc (by have := hb.size; simp; omega) (.cells (bcells 64 fun _ => 0) 23)) (by omega) _)
  obtain ⟨W3, hwo⟩ : ∃ v : World, v = ((W2.alloc (.cells (bcells 64 fun _ => 0) 23)).setRow (W2.heap.size) (bcells 64 (oneP))) := ⟨_, rfl⟩
  rw [← hwo] at qB0 qB1 qB2 qB3 qhb ⊢
  clear hwo
  clear B0 B1 B2 hb
  have B0 := qB0
  have B1 := qB1
  have B2 := qB2
  have B3 := qB3
  have hb := qhb
  clear qB0 qB1 qB2 qB3 qhb
  obtain ⟨N2, hNN⟩ : ∃ n : Nat, n = W2.heap.size := ⟨_, rfl⟩
  rw [← hNN] at lt_B0 lt_B1 lt_B2 lhb B3 ⊢
  clear hNN
  have zN2_0 := lt_B0
  have zN2_1 := lt_B1
  have zN2_2 := lt_B2
  have zN2 := lhb
  clear lt_B0 lt_B1 lt_B2 lhb
  try simp only [Act.put, List.setIfInBounds_toArray, List.set_cons_zero, List.set_cons_succ]
  go_loopw [1] (fun i wr => ∃ (q k : Nat) (po ps : Nat → Nat) (L : List (Value × Value)), Hid (pgR mul 64 k0 oneP f = pgR mul q k po ps) ∧ k < 2 ^ q ∧ (k : Int) ≤ 1000000000000 ∧ Hid (0 < k → P k po ps) ∧ Hid (∀ q ∈ L, ∃ x, q.1 = .agg (bcells 64 x) ∧ q.2 = .agg (bcells 64 (mul x x))) ∧ i = .int .i64 (k : Int) ∧ Below w.heap.size w wr ∧ Blk wr (w.heap.size) 64 23 ps ∧ Blk wr (w.heap.size + 1) 64 23 (fun _ => 0) ∧ MapG Try.prog 23 wr (N1) L ∧ Blk wr (N2) 64 23 po) (fun i _ => (intOf i).toNat)
  case atStart => exact ⟨64, k0, _, _, [], Lib.hid rfl, (by have h6 : (1000000000000 : Nat) < 2 ^ 64 := (by decide); omega), hk0, Lib.hid H0, Lib.hid (by simp), rfl, hb, B0, B1, B2, B3⟩
  case round =>
    clear hb B0 B1 B2 B3 H0
    obtain ⟨q, k, po, ps, L, hP, hkq, hk, hI, hL, rfl, hb, B0, B1, B2, B3⟩ := hrel
    have HKQ := Lib.hid hkq
    clear hkq hk0 hmm
    by_cases hz : k = 0
    · subst hz
      have HV := Lib.hid (hP.out.trans pgR_z)
      go_upto_region 13 with (fail)
      have lt_B0 := B0.lt
      have lt_B1 := B1.lt
      have lt_B2 := B2.lt
      have lt_B3 := B3.lt
      go_wp2_with (first | rw [← zero64] | (refine wpList_load_any rfl 23 (.tmp 8) rfl _ rfl 64 23 _ (B3) _ Try.underlying23 rfl Try.size23 ?_) | (refine wpList_store_blk rfl 23 (.tmp 6) (.tmp 42) rfl _ 64 (po) rfl rfl 23 _ (B1) Try.size23 ?_; try simp only [Act.put]))
      have qB0 : Blk (wr.setRow (w.heap.size + 1) (bcells 64 (po))) (w.heap.size) 64 23 (ps) := (B0.rowOther (by omega))
      have qB1 : Blk (wr.setRow (w.heap.size + 1) (bcells 64 (po))) (w.heap.size + 1) 64 23 (po) := (B1.row (po))
      have qB2 : MapG Try.prog 23 (wr.setRow (w.heap.size + 1) (bcells 64 (po))) (N1) L := (B2.rowOther (by omega))
      have qB3 : Blk (wr.setRow (w.heap.size + 1) (bcells 64 (po))) (N2) 64 23 (po) := (B3.rowOther (by omega))
      have qhb : Below w.heap.size w (wr.setRow (w.heap.size + 1) (bcells 64 (po))) := (below_row hb (by omega) _)
      obtain ⟨W4, hwo⟩ : ∃ v : World, v = (wr.setRow (w.heap.size + 1) (bcells 64 (po))) := ⟨_, rfl⟩
      rw [← hwo] at qB0 qB1 qB2 qB3 qhb ⊢
      clear hwo
      clear B0 B1 B2 B3 hb
      have B0 := qB0
      have B1 := qB1
      have B2 := qB2
      have B3 := qB3
      have hb := qhb
      clear qB0 qB1 qB2 qB3 qhb
      try simp only [Act.put, List.setIfInBounds_toArray, List.set_cons_zero, List.set_cons_succ]
      refine bodyPost_ret (results_blk rfl _ _ _ 64 23 5 _ rfl B1 Try.underlying23 Try.size23) rfl ⟨by rw [HV.out], hb⟩
    · obtain ⟨q, rfl⟩ : ∃ t, q = t + 1 := ⟨q - 1, by have h1 := HKQ.out; have h2 : q ≠ 0 := (by intro h; rw [h, Nat.pow_zero] at h1; omega); omega⟩
      have hpos : (0 : Int) < (k : Int) := by omega
      have HP := Lib.hid (hI.out (by omega))
      clear hI
      by_cases hodd : k % 2 = 1
      · have hb1 : (((k : Int) % 2) == 1) = true := beq_iff_eq.2 (by omega)
        have hb2 : (((k : Int).tmod 2) == 1) = true := by rw [Int.tmod_eq_emod_of_nonneg (by omega)]; exact hb1
        have HO := Lib.hid hodd
        have HV := Lib.hid (hP.out.trans (pgR_odd hz hodd))
        have HD := Lib.hid (show k / 2 < 2 ^ q by have := HKQ.out; rw [Nat.pow_succ] at this; omega)
        clear hodd hz hP
        go_upto_region 5 with (fail)
        clear hb1 hb2
        have lt_B0 := B0.lt
        have lt_B1 := B1.lt
        have lt_B2 := B2.lt
        have lt_B3 := B3.lt
        go_upto_region 6 with (first | rw [← zero64] | (refine wpList_load_any rfl 23 (.tmp 8) rfl _ rfl 64 23 _ (B3) _ Try.underlying23 rfl Try.size23 ?_) | (refine wpList_load_any rfl 23 (.tmp 3) rfl _ rfl 64 23 _ (B0) _ Try.underlying23 rfl Try.size23 ?_) | (go_at_call 79; refine (HT1.out k po ps _ HP.out HO.out hb).mono ?_; rintro e W4 ⟨rfl, hW4⟩; replace B0 := B0.below hW4 B0.lt; replace B1 := B1.below hW4 B1.lt; replace B2 := B2.below hW4 B2.lt; replace B3 := B3.below hW4 B3.lt; replace hb := (hb).trans (hW4.mono (hb).size)) | (refine wpList_store_blk rfl 23 (.tmp 8) (.tmp 21) rfl _ 64 (mul po ps) rfl rfl 23 _ (B3) Try.size23 ?_; try simp only [Act.put]))
        have qB0 : Blk (W4.setRow (N2) (bcells 64 (mul po ps))) (w.heap.size) 64 23 (ps) := (B0.rowOther (by omega))
        have qB1 : Blk (W4.setRow (N2) (bcells 64 (mul po ps))) (w.heap.size + 1) 64 23 (fun _ => 0) := (B1.rowOther (by omega))
        have qB2 : MapG Try.prog 23 (W4.setRow (N2) (bcells 64 (mul po ps))) (N1) L := (B2.rowOther (by omega))
        have qB3 : Blk (W4.setRow (N2) (bcells 64 (mul po ps))) (N2) 64 23 (mul po ps) := (B3.row (mul po ps))
        have qhb : Below w.heap.size w (W4.setRow (N2) (bcells 64 (mul po ps))) := (below_row hb (by omega) _)
        obtain ⟨W5, hwo⟩ : ∃ v : World, v = (W4.setRow (N2) (bcells 64 (mul po ps))) := ⟨_, rfl⟩
        rw [← hwo] at qB0 qB1 qB2 qB3 qhb ⊢
        clear hwo
        clear B0 B1 B2 B3 hb
        have B0 := qB0
        have B1 := qB1
        have B2 := qB2
        have B3 := qB3
        have hb := qhb
        clear qB0 qB1 qB2 qB3 qhb
        try simp only [Act.put, List.setIfInBounds_toArray, List.set_cons_zero, List.set_cons_succ]
        by_cases h1 : 1 < k
        · have hq : 1 ≤ (k : Int) / 2 := by omega
          have hq2 : 0 < (k : Int) / 2 := by omega
          have HS2 := Lib.hid (HS.out k po ps HP.out h1)
          have HT := Lib.hid (fun W => HT2.out k po ps W HP.out h1)
          obtain ⟨kl, hkl⟩ := Try.keyOfPoly (HB.out k po ps HP.out)
          have HKL := Lib.hid hkl
          have hlk := B2.look Try.keyPoly Try.underlying121 (Try.zeroPoly _) true hkl
          clear hkl h1
          go_upto_region 8 with (fail)
          clear hq2
          rcases hlk with ⟨hrun, hno⟩ | ⟨v, hin, hrun⟩
          · simp only [if_true] at hrun
            have lt_B0 := B0.lt
            have lt_B1 := B1.lt
            have lt_B2 := B2.lt
            have lt_B3 := B3.lt
            go_upto_region 10 with (first | rw [← zero64] | (refine wpList_load_any rfl 23 (.tmp 3) rfl _ rfl 64 23 _ (B0) _ Try.underlying23 rfl Try.size23 ?_) | (at_lookup; refine wpList_look _ rfl _ _ 121 true rfl _ rfl _ rfl (.tuple #[.agg (bcells 64 fun _ => 0), .bool false]) hrun ?_) | (refine wpList_store_blk rfl 23 (.tmp 9) (.tmp 30) rfl _ 64 (fun _ => 0) rfl rfl 23 _ ((Blk.new W5 64 23 (fun _ => 0))) Try.size23 ?_; try simp only [Act.put]; go_upto_region 10 with (fail)))
            have lt_B0 := B0.lt
            have lt_B1 := B1.lt
            have lt_B2 := B2.lt
            have lt_B3 := B3.lt
            have lhb := hb.size
            have qB0 : Blk ((W5.alloc (.cells (bcells 64 fun _ => 0) 23)).setRow (W5.heap.size) (bcells 64 (fun _ => 0))) (w.heap.size) 64 23 (ps) := ((B0.alloc (.cells (bcells 64 fun _ => 0) 23)).rowOther (by omega))
            have qB1 : Blk ((W5.alloc (.cells (bcells 64 fun _ => 0) 23)).setRow (W5.heap.size) (bcells 64 (fun _ => 0))) (w.heap.size + 1) 64 23 (fun _ => 0) := ((B1.alloc (.cells (bcells 64 fun _ => 0) 23)).rowOther (by omega))
            have qB2 : MapG Try.prog 23 ((W5.alloc (.cells (bcells 64 fun _ => 0) 23)).setRow (W5.heap.size) (bcells 64 (fun _ => 0))) (N1) L := ((B2.alloc (.cells (bcells 64 fun _ => 0) 23)).rowOther (by omega))
            have qB3 : Blk ((W5.alloc (.cells (bcells 64 fun _ => 0) 23)).setRow (W5.heap.size) (bcells 64 (fun _ => 0))) (N2) 64 23 (mul po ps) := ((B3.alloc (.cells (bcells 64 fun _ => 0) 23)).rowOther (by omega))
            have qB4 : Blk ((W5.alloc (.cells (bcells 64 fun _ => 0) 23)).setRow (W5.heap.size) (bcells 64 (fun _ => 0))) (W5.heap.size) 64 23 (fun _ => 0) := ((Blk.new W5 64 23 (fun _ => 0)).row (fun _ => 0))
            have qhb : Below w.heap.size w ((W5.alloc (.cells (bcells 64 fun _ => 0) 23)).setRow (W5.heap.size) (bcells 64 (fun _ => 0))) := (below_row (hb.alloc (by have := hb.size; simp; omega) (.cells (bcells 64 fun _ => 0) 23)) (by omega) _)
            obtain ⟨W6, hwo⟩ : ∃ v : World, v = ((W5.alloc (.cells (bcells 64 fun _ => 0) 23)).setRow (W5.heap.size) (bcells 64 (fun _ => 0))) := ⟨_, rfl⟩
            rw [← hwo] at qB0 qB1 qB2 qB3 qB4 qhb ⊢
            clear hwo
            clear B0 B1 B2 B3 hb
            have B0 := qB0
            have B1 := qB1
            have B2 := qB2
            have B3 := qB3
            have B4 := qB4
            have hb := qhb
            clear qB0 qB1 qB2 qB3 qB4 qhb
            obtain ⟨N3, hNN⟩ : ∃ n : Nat, n = W5.heap.size := ⟨_, rfl⟩
            rw [← hNN] at lt_B0 lt_B1 lt_B2 lt_B3 lhb B4 ⊢
            clear hNN
            have zN3_0 := lt_B0
            have zN3_1 := lt_B1
            have zN3_2 := lt_B2
            have zN3_3 := lt_B3
            have zN3 := lhb
            clear lt_B0 lt_B1 lt_B2 lt_B3 lhb
            try simp only [Act.put, List.setIfInBounds_toArray, List.set_cons_zero, List.set_cons_succ]
            clear hrun
            have lt_B0 := B0.lt
            have lt_B1 := B1.lt
            have lt_B2 := B2.lt
            have lt_B3 := B3.lt
            have lt_B4 := B4.lt
            go_upto_region 11 with (first | rw [← zero64] | (refine wpList_load_any rfl 23 (.tmp 3) rfl _ rfl 64 23 _ (B0) _ Try.underlying23 rfl Try.size23 ?_) | (refine wpList_load_any rfl 23 (.tmp 3) rfl _ rfl 64 23 _ (B0) _ Try.underlying23 rfl Try.size23 ?_) | (go_at_call 79; refine (HT.out _ hb).mono ?_; rintro e W7 ⟨rfl, hW7⟩; replace B0 := B0.below hW7 B0.lt; replace B1 := B1.below hW7 B1.lt; replace B2 := B2.below hW7 B2.lt; replace B3 := B3.below hW7 B3.lt; replace B4 := B4.below hW7 B4.lt; replace hb := (hb).trans (hW7.mono (hb).size)) | (refine wpList_store_blk rfl 23 (.tmp 9) (.tmp 37) rfl _ 64 (mul ps ps) rfl rfl 23 _ (B4) Try.size23 ?_; try simp only [Act.put]))
            have qB0 : Blk (W7.setRow (N3) (bcells 64 (mul ps ps))) (w.heap.size) 64 23 (ps) := (B0.rowOther (by omega))
            have qB1 : Blk (W7.setRow (N3) (bcells 64 (mul ps ps))) (w.heap.size + 1) 64 23 (fun _ => 0) := (B1.rowOther (by omega))
            have qB2 : MapG Try.prog 23 (W7.setRow (N3) (bcells 64 (mul ps ps))) (N1) L := (B2.rowOther (by omega))
            have qB3 : Blk (W7.setRow (N3) (bcells 64 (mul ps ps))) (N2) 64 23 (mul po ps) := (B3.rowOther (by omega))
            have qB4 : Blk (W7.setRow (N3) (bcells 64 (mul ps ps))) (N3) 64 23 (mul ps ps) := (B4.row (mul ps ps))
            have qhb : Below w.heap.size w (W7.setRow (N3) (bcells 64 (mul ps ps))) := (below_row hb (by omega) _)
            obtain ⟨W8, hwo⟩ : ∃ v : World, v = (W7.setRow (N3) (bcells 64 (mul ps ps))) := ⟨_, rfl⟩
            rw [← hwo] at qB0 qB1 qB2 qB3 qB4 qhb ⊢
            clear hwo
            clear B0 B1 B2 B3 B4 hb
            have B0 := qB0
            have B1 := qB1
            have B2 := qB2
            have B3 := qB3
            have B4 := qB4
            have hb := qhb
            clear qB0 qB1 qB2 qB3 qB4 qhb
            try simp only [Act.put, List.setIfInBounds_toArray, List.set_cons_zero, List.set_cons_succ]
            obtain ⟨wM, hput, hmn, hgr⟩ := B2.put (val := .agg (bcells 64 (mul ps ps))) Try.keyPoly Try.underlying121 HKL.out hno
            have gB0 : Blk wM (w.heap.size) 64 23 (ps) := B0.grown hgr (by omega)
            have gB1 : Blk wM (w.heap.size + 1) 64 23 (fun _ => 0) := B1.grown hgr (by omega)
            have gB3 : Blk wM (N2) 64 23 (mul po ps) := B3.grown hgr (by omega)
            have gB4 : Blk wM (N3) 64 23 (mul ps ps) := B4.grown hgr (by omega)
            have ghb : Below w.heap.size w wM := hb.grown hgr hb.size (fun j e => by cases e; omega)
            go_upto_region 12 with (first | (refine wpList_load_any rfl 23 (.tmp 3) rfl _ rfl 64 23 _ (B0) _ Try.underlying23 rfl Try.size23 ?_) | (refine wpList_load_any rfl 23 (.tmp 9) rfl _ rfl 64 23 _ (B4) _ Try.underlying23 rfl Try.size23 ?_) | (at_mapUpdate; refine wpList_put _ rfl _ _ _ 121 rfl _ rfl _ rfl _ rfl wM hput ?_; go_upto_region 12 with (fail)))
            clear B0 B1 B2 B3 B4 hb hput hgr hno
            have B0 := gB0
            clear gB0
            have B1 := gB1
            clear gB1
            have B2 := hmn
            clear hmn
            have B3 := gB3
            clear gB3
            have B4 := gB4
            clear gB4
            have hb := ghb
            clear ghb
            have lt_B0 := B0.lt
            have lt_B1 := B1.lt
            have lt_B2 := B2.lt
            have lt_B3 := B3.lt
            have lt_B4 := B4.lt
            go_wp2_with (first | rw [← zero64] | (refine wpList_load_any rfl 23 (.tmp 9) rfl _ rfl 64 23 _ (B4) _ Try.underlying23 rfl Try.size23 ?_) | (refine wpList_store_blk rfl 23 (.tmp 3) (.tmp 41) rfl _ 64 (mul ps ps) rfl rfl 23 _ (B0) Try.size23 ?_; try simp only [Act.put]))
            have qB0 : Blk (wM.setRow (w.heap.size) (bcells 64 (mul ps ps))) (w.heap.size) 64 23 (mul ps ps) := (B0.row (mul ps ps))
            have qB1 : Blk (wM.setRow (w.heap.size) (bcells 64 (mul ps ps))) (w.heap.size + 1) 64 23 (fun _ => 0) := (B1.rowOther (by omega))
            have qB2 : MapG Try.prog 23 (wM.setRow (w.heap.size) (bcells 64 (mul ps ps))) (N1) (L ++ [(.agg (bcells 64 ps), .agg (bcells 64 (mul ps ps)))]) := (B2.rowOther (by omega))
            have qB3 : Blk (wM.setRow (w.heap.size) (bcells 64 (mul ps ps))) (N2) 64 23 (mul po ps) := (B3.rowOther (by omega))
            have qB4 : Blk (wM.setRow (w.heap.size) (bcells 64 (mul ps ps))) (N3) 64 23 (mul ps ps) := (B4.rowOther (by omega))
            have qhb : Below w.heap.size w (wM.setRow (w.heap.size) (bcells 64 (mul ps ps))) := (below_row hb (by omega) _)
            obtain ⟨W9, hwo⟩ : ∃ v : World, v = (wM.setRow (w.heap.size) (bcells 64 (mul ps ps))) := ⟨_, rfl⟩
            rw [← hwo] at qB0 qB1 qB2 qB3 qB4 qhb ⊢
            clear hwo
            clear B0 B1 B2 B3 B4 hb
            have B0 := qB0
            have B1 := qB1
            have B2 := qB2
            have B3 := qB3
            have B4 := qB4
            have hb := qhb
            clear qB0 qB1 qB2 qB3 qB4 qhb
            try simp only [Act.put, List.setIfInBounds_toArray, List.set_cons_zero, List.set_cons_succ]
            go_roundw
            case rel => exact ⟨q, k / 2, mul po ps, mul ps ps, L ++ [(.agg (bcells 64 ps), .agg (bcells 64 (mul ps ps)))], HV, HD.out, by omega, Lib.hid (fun _ => by have := HS2.out; rw [if_pos HO.out] at this; exact this), Lib.hid (by intro q hq; rcases List.mem_append.1 hq with h | h; exact hL.out q h; rw [List.mem_singleton] at h; subst h; exact ⟨ps, rfl, rfl⟩), by rw [show ((k / 2 : Nat) : Int) = (k : Int) / 2 by push_cast; rfl], hb, B0, B1, B2, B3⟩
            case measure => simp [intOf] <;> omega
          · simp only [if_true] at hrun
            obtain rfl : v = .agg (bcells 64 (mul ps ps)) := by
              obtain ⟨x, e1, e2⟩ := hL.out _ hin
              have e3 : (Value.agg (bcells 64 ps)) = .agg (bcells 64 x) := e1
              have e4 : bcells 64 ps = bcells 64 x := by injection e3
              have e5 : v = .agg (bcells 64 (mul x x)) := e2
              rw [e5, HC.out x ps (fun i hi => (bcells_inj e4 i hi).symm)]
            clear hin
            have lt_B0 := B0.lt
            have lt_B1 := B1.lt
            have lt_B2 := B2.lt
            have lt_B3 := B3.lt
            go_upto_region 12 with (first | rw [← zero64] | (refine wpList_load_any rfl 23 (.tmp 3) rfl _ rfl 64 23 _ (B0) _ Try.underlying23 rfl Try.size23 ?_) | (at_lookup; refine wpList_look _ rfl _ _ 121 true rfl _ rfl _ rfl (.tuple #[.agg (bcells 64 (mul ps ps)), .bool true]) hrun ?_) | (refine wpList_store_blk rfl 23 (.tmp 9) (.tmp 30) rfl _ 64 (mul ps ps) rfl rfl 23 _ ((Blk.new W5 64 23 (fun _ => 0))) Try.size23 ?_; try simp only [Act.put]; go_upto_region 12 with (fail)))
            have lt_B0 := B0.lt
            have lt_B1 := B1.lt
            have lt_B2 := B2.lt
            have lt_B3 := B3.lt
            have lhb := hb.size
            have qB0 : Blk ((W5.alloc (.cells (bcells 64 fun _ => 0) 23)).setRow (W5.heap.size) (bcells 64 (mul ps ps))) (w.heap.size) 64 23 (ps) := ((B0.alloc (.cells (bcells 64 fun _ => 0) 23)).rowOther (by omega))
            have qB1 : Blk ((W5.alloc (.cells (bcells 64 fun _ => 0) 23)).setRow (W5.heap.size) (bcells 64 (mul ps ps))) (w.heap.size + 1) 64 23 (fun _ => 0) := ((B1.alloc (.cells (bcells 64 fun _ => 0) 23)).rowOther (by omega))
            have qB2 : MapG Try.prog 23 ((W5.alloc (.cells (bcells 64 fun _ => 0) 23)).setRow (W5.heap.size) (bcells 64 (mul ps ps))) (N1) L := ((B2.alloc (.cells (bcells 64 fun _ => 0) 23)).rowOther (by omega))
            have qB3 : Blk ((W5.alloc (.cells (bcells 64 fun _ => 0) 23)).setRow (W5.heap.size) (bcells 64 (mul ps ps))) (N2) 64 23 (mul po ps) := ((B3.alloc (.cells (bcells 64 fun _ => 0) 23)).rowOther (by omega))
            have qB4 : Blk ((W5.alloc (.cells (bcells 64 fun _ => 0) 23)).setRow (W5.heap.size) (bcells 64 (mul ps ps))) (W5.heap.size) 64 23 (mul ps ps) := ((Blk.new W5 64 23 (fun _ => 0)).row (mul ps ps))
            have qhb : Below w.heap.size w ((W5.alloc (.cells (bcells 64 fun _ => 0) 23)).setRow (W5.heap.size) (bcells 64 (mul ps ps))) := (below_row (hb.alloc (by have := hb.size; simp; omega) (.cells (bcells 64 fun _ => 0) 23)) (by omega) _)
            obtain ⟨W6, hwo⟩ : ∃ v : World, v = ((W5.alloc (.cells (bcells 64 fun _ => 0) 23)).setRow (W5.heap.size) (bcells 64 (mul ps ps))) := ⟨_, rfl⟩
            rw [← hwo] at qB0 qB1 qB2 qB3 qB4 qhb ⊢
            clear hwo
            clear B0 B1 B2 B3 hb
            have B0 := qB0
            have B1 := qB1
            have B2 := qB2
            have B3 := qB3
            have B4 := qB4
            have hb := qhb
            clear qB0 qB1 qB2 qB3 qB4 qhb
            obtain ⟨N3, hNN⟩ : ∃ n : Nat, n = W5.heap.size := ⟨_, rfl⟩
            rw [← hNN] at lt_B0 lt_B1 lt_B2 lt_B3 lhb B4 ⊢
            clear hNN
            have zN3_0 := lt_B0
            have zN3_1 := lt_B1
            have zN3_2 := lt_B2
            have zN3_3 := lt_B3
            have zN3 := lhb
            clear lt_B0 lt_B1 lt_B2 lt_B3 lhb
            try simp only [Act.put, List.setIfInBounds_toArray, List.set_cons_zero, List.set_cons_succ]
            clear hrun
            have lt_B0 := B0.lt
            have lt_B1 := B1.lt
            have lt_B2 := B2.lt
            have lt_B3 := B3.lt
            have lt_B4 := B4.lt
            go_wp2_with (first | rw [← zero64] | (refine wpList_load_any rfl 23 (.tmp 9) rfl _ rfl 64 23 _ (B4) _ Try.underlying23 rfl Try.size23 ?_) | (refine wpList_store_blk rfl 23 (.tmp 3) (.tmp 41) rfl _ 64 (mul ps ps) rfl rfl 23 _ (B0) Try.size23 ?_; try simp only [Act.put]))
            have qB0 : Blk (W6.setRow (w.heap.size) (bcells 64 (mul ps ps))) (w.heap.size) 64 23 (mul ps ps) := (B0.row (mul ps ps))
            have qB1 : Blk (W6.setRow (w.heap.size) (bcells 64 (mul ps ps))) (w.heap.size + 1) 64 23 (fun _ => 0) := (B1.rowOther (by omega))
            have qB2 : MapG Try.prog 23 (W6.setRow (w.heap.size) (bcells 64 (mul ps ps))) (N1) L := (B2.rowOther (by omega))
            have qB3 : Blk (W6.setRow (w.heap.size) (bcells 64 (mul ps ps))) (N2) 64 23 (mul po ps) := (B3.rowOther (by omega))
            have qB4 : Blk (W6.setRow (w.heap.size) (bcells 64 (mul ps ps))) (N3) 64 23 (mul ps ps) := (B4.rowOther (by omega))
            have qhb : Below w.heap.size w (W6.setRow (w.heap.size) (bcells 64 (mul ps ps))) := (below_row hb (by omega) _)
            obtain ⟨W7, hwo⟩ : ∃ v : World, v = (W6.setRow (w.heap.size) (bcells 64 (mul ps ps))) := ⟨_, rfl⟩
            rw [← hwo] at qB0 qB1 qB2 qB3 qB4 qhb ⊢
            clear hwo
            clear B0 B1 B2 B3 B4 hb
            have B0 := qB0
            have B1 := qB1
            have B2 := qB2
            have B3 := qB3
            have B4 := qB4
            have hb := qhb
            clear qB0 qB1 qB2 qB3 qB4 qhb
            try simp only [Act.put, List.setIfInBounds_toArray, List.set_cons_zero, List.set_cons_succ]
            go_roundw
            case rel => exact ⟨q, k / 2, mul po ps, mul ps ps, L, HV, HD.out, by omega, Lib.hid (fun _ => by have := HS2.out; rw [if_pos HO.out] at this; exact this), hL, by rw [show ((k / 2 : Nat) : Int) = (k : Int) / 2 by push_cast; rfl], hb, B0, B1, B2, B3⟩
            case measure => simp [intOf] <;> omega
        · have hq : (k : Int) / 2 = 0 := by omega
          have hq2 : ((k : Int).tdiv 2) = 0 := by rw [Int.tdiv_eq_ediv_of_nonneg (by omega)]; exact hq
          have HE := Lib.hid (show k / 2 = 0 by omega)
          clear h1
          go_wp2_with fail
          go_roundw
          case rel => exact ⟨q, 0, mul po ps, ps, L, Lib.hid (HV.out.trans (by rw [HE.out, pgR_z, pgR_z])), Nat.pow_pos (by omega), by omega, Lib.hid (fun h => absurd h (by omega)), hL, by simp, hb, B0, B1, B2, B3⟩
          case measure => simp [intOf] <;> omega
      · have hb1 : (((k : Int) % 2) == 1) = false := beq_eq_false_iff_ne.2 (by omega)
        have hb2 : (((k : Int).tmod 2) == 1) = false := by rw [Int.tmod_eq_emod_of_nonneg (by omega)]; exact hb1
        have HO := Lib.hid hodd
        have HV := Lib.hid (hP.out.trans (pgR_even hz hodd))
        have HD := Lib.hid (show k / 2 < 2 ^ q by have := HKQ.out; rw [Nat.pow_succ] at this; omega)
        clear hodd hz hP
        go_upto_region 6 with (fail)
        clear hb1 hb2
        by_cases h1 : 1 < k
        · have hq : 1 ≤ (k : Int) / 2 := by omega
          have hq2 : 0 < (k : Int) / 2 := by omega
          have HS2 := Lib.hid (HS.out k po ps HP.out h1)
          have HT := Lib.hid (fun W => HT2.out k po ps W HP.out h1)
          obtain ⟨kl, hkl⟩ := Try.keyOfPoly (HB.out k po ps HP.out)
          have HKL := Lib.hid hkl
          have hlk := B2.look Try.keyPoly Try.underlying121 (Try.zeroPoly _) true hkl
          clear hkl h1
          go_upto_region 8 with (fail)
          clear hq2
          rcases hlk with ⟨hrun, hno⟩ | ⟨v, hin, hrun⟩
          · simp only [if_true] at hrun
            have lt_B0 := B0.lt
            have lt_B1 := B1.lt
            have lt_B2 := B2.lt
            have lt_B3 := B3.lt
            go_upto_region 10 with (first | rw [← zero64] | (refine wpList_load_any rfl 23 (.tmp 3) rfl _ rfl 64 23 _ (B0) _ Try.underlying23 rfl Try.size23 ?_) | (at_lookup; refine wpList_look _ rfl _ _ 121 true rfl _ rfl _ rfl (.tuple #[.agg (bcells 64 fun _ => 0), .bool false]) hrun ?_) | (refine wpList_store_blk rfl 23 (.tmp 9) (.tmp 30) rfl _ 64 (fun _ => 0) rfl rfl 23 _ ((Blk.new wr 64 23 (fun _ => 0))) Try.size23 ?_; try simp only [Act.put]; go_upto_region 10 with (fail)))
            have lt_B0 := B0.lt
            have lt_B1 := B1.lt
            have lt_B2 := B2.lt
            have lt_B3 := B3.lt
            have lhb := hb.size
            have qB0 : Blk ((wr.alloc (.cells (bcells 64 fun _ => 0) 23)).setRow (wr.heap.size) (bcells 64 (fun _ => 0))) (w.heap.size) 64 23 (ps) := ((B0.alloc (.cells (bcells 64 fun _ => 0) 23)).rowOther (by omega))
            have qB1 : Blk ((wr.alloc (.cells (bcells 64 fun _ => 0) 23)).setRow (wr.heap.size) (bcells 64 (fun _ => 0))) (w.heap.size + 1) 64 23 (fun _ => 0) := ((B1.alloc (.cells (bcells 64 fun _ => 0) 23)).rowOther (by omega))
            have qB2 : MapG Try.prog 23 ((wr.alloc (.cells (bcells 64 fun _ => 0) 23)).setRow (wr.heap.size) (bcells 64 (fun _ => 0))) (N1) L := ((B2.alloc (.cells (bcells 64 fun _ => 0) 23)).rowOther (by omega))
            have qB3 : Blk ((wr.alloc (.cells (bcells 64 fun _ => 0) 23)).setRow (wr.heap.size) (bcells 64 (fun _ => 0))) (N2) 64 23 (po) := ((B3.alloc (.cells (bcells 64 fun _ => 0) 23)).rowOther (by omega))
            have qB4 : Blk ((wr.alloc (.cells (bcells 64 fun _ => 0) 23)).setRow (wr.heap.size) (bcells 64 (fun _ => 0))) (wr.heap.size) 64 23 (fun _ => 0) := ((Blk.new wr 64 23 (fun _ => 0)).row (fun _ => 0))
            have qhb : Below w.heap.size w ((wr.alloc (.cells (bcells 64 fun _ => 0) 23)).setRow (wr.heap.size) (bcells 64 (fun _ => 0))) := (below_row (hb.alloc (by have := hb.size; simp; omega) (.cells (bcells 64 fun _ => 0) 23)) (by omega) _)
            obtain ⟨W4, hwo⟩ : ∃ v : World, v = ((wr.alloc (.cells (bcells 64 fun _ => 0) 23)).setRow (wr.heap.size) (bcells 64 (fun _ => 0))) := ⟨_, rfl⟩
            rw [← hwo] at qB0 qB1 qB2 qB3 qB4 qhb ⊢
            clear hwo
            clear B0 B1 B2 B3 hb
            have B0 := qB0
            have B1 := qB1
            have B2 := qB2
            have B3 := qB3
            have B4 := qB4
            have hb := qhb
            clear qB0 qB1 qB2 qB3 qB4 qhb
            obtain ⟨N3, hNN⟩ : ∃ n : Nat, n = wr.heap.size := ⟨_, rfl⟩
            rw [← hNN] at lt_B0 lt_B1 lt_B2 lt_B3 lhb B4 ⊢
            clear hNN
            have zN3_0 := lt_B0
            have zN3_1 := lt_B1
            have zN3_2 := lt_B2
            have zN3_3 := lt_B3
            have zN3 := lhb
            clear lt_B0 lt_B1 lt_B2 lt_B3 lhb
            try simp only [Act.put, List.setIfInBounds_toArray, List.set_cons_zero, List.set_cons_succ]
            clear hrun
            have lt_B0 := B0.lt
            have lt_B1 := B1.lt
            have lt_B2 := B2.lt
            have lt_B3 := B3.lt
            have lt_B4 := B4.lt
            go_upto_region 11 with (first | rw [← zero64] | (refine wpList_load_any rfl 23 (.tmp 3) rfl _ rfl 64 23 _ (B0) _ Try.underlying23 rfl Try.size23 ?_) | (refine wpList_load_any rfl 23 (.tmp 3) rfl _ rfl 64 23 _ (B0) _ Try.underlying23 rfl Try.size23 ?_) | (go_at_call 79; refine (HT.out _ hb).mono ?_; rintro e W5 ⟨rfl, hW5⟩; replace B0 := B0.below hW5 B0.lt; replace B1 := B1.below hW5 B1.lt; replace B2 := B2.below hW5 B2.lt; replace B3 := B3.below hW5 B3.lt; replace B4 := B4.below hW5 B4.lt; replace hb := (hb).trans (hW5.mono (hb).size)) | (refine wpList_store_blk rfl 23 (.tmp 9) (.tmp 37) rfl _ 64 (mul ps ps) rfl rfl 23 _ (B4) Try.size23 ?_; try simp only [Act.put]))
            have qB0 : Blk (W5.setRow (N3) (bcells 64 (mul ps ps))) (w.heap.size) 64 23 (ps) := (B0.rowOther (by omega))
            have qB1 : Blk (W5.setRow (N3) (bcells 64 (mul ps ps))) (w.heap.size + 1) 64 23 (fun _ => 0) := (B1.rowOther (by omega))
            have qB2 : MapG Try.prog 23 (W5.setRow (N3) (bcells 64 (mul ps ps))) (N1) L := (B2.rowOther (by omega))
            have qB3 : Blk (W5.setRow (N3) (bcells 64 (mul ps ps))) (N2) 64 23 (po) := (B3.rowOther (by omega))
            have qB4 : Blk (W5.setRow (N3) (bcells 64 (mul ps ps))) (N3) 64 23 (mul ps ps) := (B4.row (mul ps ps))
            have qhb : Below w.heap.size w (W5.setRow (N3) (bcells 64 (mul ps ps))) := (below_row hb (by omega) _)
            obtain ⟨W6, hwo⟩ : ∃ v : World, v = (W5.setRow (N3) (bcells 64 (mul ps ps))) := ⟨_, rfl⟩
            rw [← hwo] at qB0 qB1 qB2 qB3 qB4 qhb ⊢
            clear hwo
            clear B0 B1 B2 B3 B4 hb
            have B0 := qB0
            have B1 := qB1
            have B2 := qB2
            have B3 := qB3
            have B4 := qB4
            have hb := qhb
            clear qB0 qB1 qB2 qB3 qB4 qhb
            try simp only [Act.put, List.setIfInBounds_toArray, List.set_cons_zero, List.set_cons_succ]
            obtain ⟨wM, hput, hmn, hgr⟩ := B2.put (val := .agg (bcells 64 (mul ps ps))) Try.keyPoly Try.underlying121 HKL.out hno
            have gB0 : Blk wM (w.heap.size) 64 23 (ps) := B0.grown hgr (by omega)
            have gB1 : Blk wM (w.heap.size + 1) 64 23 (fun _ => 0) := B1.grown hgr (by omega)
            have gB3 : Blk wM (N2) 64 23 (po) := B3.grown hgr (by omega)
            have gB4 : Blk wM (N3) 64 23 (mul ps ps) := B4.grown hgr (by omega)
            have ghb : Below w.heap.size w wM := hb.grown hgr hb.size (fun j e => by cases e; omega)
            go_upto_region 12 with (first | (refine wpList_load_any rfl 23 (.tmp 3) rfl _ rfl 64 23 _ (B0) _ Try.underlying23 rfl Try.size23 ?_) | (refine wpList_load_any rfl 23 (.tmp 9) rfl _ rfl 64 23 _ (B4) _ Try.underlying23 rfl Try.size23 ?_) | (at_mapUpdate; refine wpList_put _ rfl _ _ _ 121 rfl _ rfl _ rfl _ rfl wM hput ?_; go_upto_region 12 with (fail)))
            clear B0 B1 B2 B3 B4 hb hput hgr hno
            have B0 := gB0
            clear gB0
            have B1 := gB1
            clear gB1
            have B2 := hmn
            clear hmn
            have B3 := gB3
            clear gB3
            have B4 := gB4
            clear gB4
            have hb := ghb
            clear ghb
            have lt_B0 := B0.lt
            have lt_B1 := B1.lt
            have lt_B2 := B2.lt
            have lt_B3 := B3.lt
            have lt_B4 := B4.lt
            go_wp2_with (first | rw [← zero64] | (refine wpList_load_any rfl 23 (.tmp 9) rfl _ rfl 64 23 _ (B4) _ Try.underlying23 rfl Try.size23 ?_) | (refine wpList_store_blk rfl 23 (.tmp 3) (.tmp 41) rfl _ 64 (mul ps ps) rfl rfl 23 _ (B0) Try.size23 ?_; try simp only [Act.put]))
            have qB0 : Blk (wM.setRow (w.heap.size) (bcells 64 (mul ps ps))) (w.heap.size) 64 23 (mul ps ps) := (B0.row (mul ps ps))
            have qB1 : Blk (wM.setRow (w.heap.size) (bcells 64 (mul ps ps))) (w.heap.size + 1) 64 23 (fun _ => 0) := (B1.rowOther (by omega))
            have qB2 : MapG Try.prog 23 (wM.setRow (w.heap.size) (bcells 64 (mul ps ps))) (N1) (L ++ [(.agg (bcells 64 ps), .agg (bcells 64 (mul ps ps)))]) := (B2.rowOther (by omega))
            have qB3 : Blk (wM.setRow (w.heap.size) (bcells 64 (mul ps ps))) (N2) 64 23 (po) := (B3.rowOther (by omega))
            have qB4 : Blk (wM.setRow (w.heap.size) (bcells 64 (mul ps ps))) (N3) 64 23 (mul ps ps) := (B4.rowOther (by omega))
            have qhb : Below w.heap.size w (wM.setRow (w.heap.size) (bcells 64 (mul ps ps))) := (below_row hb (by omega) _)
            obtain ⟨W7, hwo⟩ : ∃ v : World, v = (wM.setRow (w.heap.size) (bcells 64 (mul ps ps))) := ⟨_, rfl⟩
            rw [← hwo] at qB0 qB1 qB2 qB3 qB4 qhb ⊢
            clear hwo
            clear B0 B1 B2 B3 B4 hb
            have B0 := qB0
            have B1 := qB1
            have B2 := qB2
            have B3 := qB3
            have B4 := qB4
            have hb := qhb
            clear qB0 qB1 qB2 qB3 qB4 qhb
            try simp only [Act.put, List.setIfInBounds_toArray, List.set_cons_zero, List.set_cons_succ]
            go_roundw
            case rel => exact ⟨q, k / 2, po, mul ps ps, L ++ [(.agg (bcells 64 ps), .agg (bcells 64 (mul ps ps)))], HV, HD.out, by omega, Lib.hid (fun _ => by have := HS2.out; rw [if_neg HO.out] at this; exact this), Lib.hid (by intro q hq; rcases List.mem_append.1 hq with h | h; exact hL.out q h; rw [List.mem_singleton] at h; subst h; exact ⟨ps, rfl, rfl⟩), by rw [show ((k / 2 : Nat) : Int) = (k : Int) / 2 by push_cast; rfl], hb, B0, B1, B2, B3⟩
            case measure => simp [intOf] <;> omega
          · simp only [if_true] at hrun
            obtain rfl : v = .agg (bcells 64 (mul ps ps)) := by
              obtain ⟨x, e1, e2⟩ := hL.out _ hin
              have e3 : (Value.agg (bcells 64 ps)) = .agg (bcells 64 x) := e1
              have e4 : bcells 64 ps = bcells 64 x := by injection e3
              have e5 : v = .agg (bcells 64 (mul x x)) := e2
              rw [e5, HC.out x ps (fun i hi => (bcells_inj e4 i hi).symm)]
            clear hin
            have lt_B0 := B0.lt
            have lt_B1 := B1.lt
            have lt_B2 := B2.lt
            have lt_B3 := B3.lt
            go_upto_region 12 with (first | rw [← zero64] | (refine wpList_load_any rfl 23 (.tmp 3) rfl _ rfl 64 23 _ (B0) _ Try.underlying23 rfl Try.size23 ?_) | (at_lookup; refine wpList_look _ rfl _ _ 121 true rfl _ rfl _ rfl (.tuple #[.agg (bcells 64 (mul ps ps)), .bool true]) hrun ?_) | (refine wpList_store_blk rfl 23 (.tmp 9) (.tmp 30) rfl _ 64 (mul ps ps) rfl rfl 23 _ ((Blk.new wr 64 23 (fun _ => 0))) Try.size23 ?_; try simp only [Act.put]; go_upto_region 12 with (fail)))
            have lt_B0 := B0.lt
            have lt_B1 := B1.lt
            have lt_B2 := B2.lt
            have lt_B3 := B3.lt
            have lhb := hb.size
            have qB0 : Blk ((wr.alloc (.cells (bcells 64 fun _ => 0) 23)).setRow (wr.heap.size) (bcells 64 (mul ps ps))) (w.heap.size) 64 23 (ps) := ((B0.alloc (.cells (bcells 64 fun _ => 0) 23)).rowOther (by omega))
            have qB1 : Blk ((wr.alloc (.cells (bcells 64 fun _ => 0) 23)).setRow (wr.heap.size) (bcells 64 (mul ps ps))) (w.heap.size + 1) 64 23 (fun _ => 0) := ((B1.alloc (.cells (bcells 64 fun _ => 0) 23)).rowOther (by omega))
            have qB2 : MapG Try.prog 23 ((wr.alloc (.cells (bcells 64 fun _ => 0) 23)).setRow (wr.heap.size) (bcells 64 (mul ps ps))) (N1) L := ((B2.alloc (.cells (bcells 64 fun _ => 0) 23)).rowOther (by omega))
            have qB3 : Blk ((wr.alloc (.cells (bcells 64 fun _ => 0) 23)).setRow (wr.heap.size) (bcells 64 (mul ps ps))) (N2) 64 23 (po) := ((B3.alloc (.cells (bcells 64 fun _ => 0) 23)).rowOther (by omega))
            have qB4 : Blk ((wr.alloc (.cells (bcells 64 fun _ => 0) 23)).setRow (wr.heap.size) (bcells 64 (mul ps ps))) (wr.heap.size) 64 23 (mul ps ps) := ((Blk.new wr 64 23 (fun _ => 0)).row (mul ps ps))
            have qhb : Below w.heap.size w ((wr.alloc (.cells (bcells 64 fun _ => 0) 23)).setRow (wr.heap.size) (bcells 64 (mul ps ps))) := (below_row (hb.alloc (by have := hb.size; simp; omega) (.cells (bcells 64 fun _ => 0) 23)) (by omega) _)
            obtain ⟨W4, hwo⟩ : ∃ v : World, v = ((wr.alloc (.cells (bcells 64 fun _ => 0) 23)).setRow (wr.heap.size) (bcells 64 (mul ps ps))) := ⟨_, rfl⟩
            rw [← hwo] at qB0 qB1 qB2 qB3 qB4 qhb ⊢
            clear hwo
            clear B0 B1 B2 B3 hb
            have B0 := qB0
            have B1 := qB1
            have B2 := qB2
            have B3 := qB3
            have B4 := qB4
            have hb := qhb
            clear qB0 qB1 qB2 qB3 qB4 qhb
            obtain ⟨N3, hNN⟩ : ∃ n : Nat, n = wr.heap.size := ⟨_, rfl⟩
            rw [← hNN] at lt_B0 lt_B1 lt_B2 lt_B3 lhb B4 ⊢
            clear hNN
            have zN3_0 := lt_B0
            have zN3_1 := lt_B1
            have zN3_2 := lt_B2
            have zN3_3 := lt_B3
            have zN3 := lhb
            clear lt_B0 lt_B1 lt_B2 lt_B3 lhb
            try simp only [Act.put, List.setIfInBounds_toArray, List.set_cons_zero, List.set_cons_succ]
            clear hrun
            have lt_B0 := B0.lt
            have lt_B1 := B1.lt
            have lt_B2 := B2.lt
            have lt_B3 := B3.lt
            have lt_B4 := B4.lt
            go_wp2_with (first | rw [← zero64] | (refine wpList_load_any rfl 23 (.tmp 9) rfl _ rfl 64 23 _ (B4) _ Try.underlying23 rfl Try.size23 ?_) | (refine wpList_store_blk rfl 23 (.tmp 3) (.tmp 41) rfl _ 64 (mul ps ps) rfl rfl 23 _ (B0) Try.size23 ?_; try simp only [Act.put]))
            have qB0 : Blk (W4.setRow (w.heap.size) (bcells 64 (mul ps ps))) (w.heap.size) 64 23 (mul ps ps) := (B0.row (mul ps ps))
            have qB1 : Blk (W4.setRow (w.heap.size) (bcells 64 (mul ps ps))) (w.heap.size + 1) 64 23 (fun _ => 0) := (B1.rowOther (by omega))
            have qB2 : MapG Try.prog 23 (W4.setRow (w.heap.size) (bcells 64 (mul ps ps))) (N1) L := (B2.rowOther (by omega))
            have qB3 : Blk (W4.setRow (w.heap.size) (bcells 64 (mul ps ps))) (N2) 64 23 (po) := (B3.rowOther (by omega))
            have qB4 : Blk (W4.setRow (w.heap.size) (bcells 64 (mul ps ps))) (N3) 64 23 (mul ps ps) := (B4.rowOther (by omega))
            have qhb : Below w.heap.size w (W4.setRow (w.heap.size) (bcells 64 (mul ps ps))) := (below_row hb (by omega) _)
            obtain ⟨W5, hwo⟩ : ∃ v : World, v = (W4.setRow (w.heap.size) (bcells 64 (mul ps ps))) := ⟨_, rfl⟩
            rw [← hwo] at qB0 qB1 qB2 qB3 qB4 qhb ⊢
            clear hwo
            clear B0 B1 B2 B3 B4 hb
            have B0 := qB0
            have B1 := qB1
            have B2 := qB2
            have B3 := qB3
            have B4 := qB4
            have hb := qhb
            clear qB0 qB1 qB2 qB3 qB4 qhb
            try simp only [Act.put, List.setIfInBounds_toArray, List.set_cons_zero, List.set_cons_succ]
            go_roundw
            case rel => exact ⟨q, k / 2, po, mul ps ps, L, HV, HD.out, by omega, Lib.hid (fun _ => by have := HS2.out; rw [if_neg HO.out] at this; exact this), hL, by rw [show ((k / 2 : Nat) : Int) = (k : Int) / 2 by push_cast; rfl], hb, B0, B1, B2, B3⟩
            case measure => simp [intOf] <;> omega
        · have hq : (k : Int) / 2 = 0 := by omega
          have hq2 : ((k : Int).tdiv 2) = 0 := by rw [Int.tdiv_eq_ediv_of_nonneg (by omega)]; exact hq
          have HE := Lib.hid (show k / 2 = 0 by omega)
          clear h1
          go_wp2_with fail
          go_roundw
          case rel => exact ⟨q, 0, po, ps, L, Lib.hid (HV.out.trans (by rw [HE.out, pgR_z, pgR_z])), Nat.pow_pos (by omega), by omega, Lib.hid (fun h => absurd h (by omega)), hL, by simp, hb, B0, B1, B2, B3⟩
          case measure => simp [intOf] <;> omega
theorem powMul_any (p : Nat) (f : Nat → Nat) (k0 : Nat) (bp : Nat) (w : World) (p2 : 2 ≤ p) (p7 : p ≤ 7) (lf : ∀ k, k < 64 → f k < p) (hk0 : (k0 : Int) ≤ 1000000000000)
    (B0 : One w bp 2 (.int .i64 (p : Int))) :
    Calls Try.prog 81 #[.agg (bcells 64 f), .int .i64 (k0 : Int), .func (.func 79) #[] #[.pointer (some ⟨bp, 0, none⟩)]] w fun e w' => e = .returned (.agg (bcells 64 (pgR (prd p) 64 k0 oneP f))) ∧ Below w.heap.size w w' := by
  have p0 : 0 < p := by omega
  exact powerMul (prd p) (fun _ r s => (∀ i, i < 64 → r i < p) ∧ ∀ i, i < 64 → s i < p) _ f k0 w
    (Lib.hid fun k r s W hP _ hB => timesPow_any p r s bp W p2 p7 hP.1 hP.2 (B0.below hB B0.lt)) (Lib.hid fun k r s W hP _ hB => timesPow_any p s s bp W p2 p7 hP.2 hP.2 (B0.below hB B0.lt))
    (Lib.hid fun k r s hP _ => ⟨fun i hi => by
      by_cases h : k % 2 = 1
      · rw [if_pos h]; exact prd_lt p0 i
      · rw [if_neg h]; exact hP.1 i hi, fun i _ => prd_lt p0 i⟩)
    (Lib.hid fun x y h => by unfold prd; rw [cut_eq h]) (Lib.hid fun k r s hP i hi => by have := hP.2 i hi; omega) (fun _ => ⟨fun i _ => by unfold oneP; split <;> omega, lf⟩) hk0
theorem lit_c (c : Nat) : (#[.int .u8 (c : Int), .int .u8 0, .int .u8 0, .int .u8 0, .int .u8 0, .int .u8 0, .int .u8 0, .int .u8 0, .int .u8 0, .int .u8 0, .int .u8 0, .int .u8 0, .int .u8 0, .int .u8 0, .int .u8 0, .int .u8 0, .int .u8 0, .int .u8 0, .int .u8 0, .int .u8 0, .int .u8 0, .int .u8 0, .int .u8 0, .int .u8 0, .int .u8 0, .int .u8 0, .int .u8 0, .int .u8 0, .int .u8 0, .int .u8 0, .int .u8 0, .int .u8 0, .int .u8 0, .int .u8 0, .int .u8 0, .int .u8 0, .int .u8 0, .int .u8 0, .int .u8 0, .int .u8 0, .int .u8 0, .int .u8 0, .int .u8 0, .int .u8 0, .int .u8 0, .int .u8 0, .int .u8 0, .int .u8 0, .int .u8 0, .int .u8 0, .int .u8 0, .int .u8 0, .int .u8 0, .int .u8 0, .int .u8 0, .int .u8 0, .int .u8 0, .int .u8 0, .int .u8 0, .int .u8 0, .int .u8 0, .int .u8 0, .int .u8 0, .int .u8 0] : Array Value) = bcells 64 fun k => if k = 0 then c else 0 := by unfold bcells bl; kernel_rfl
/-- both answers -/
def pqV (p : Int) (f : Nat → Nat) (k : Int) : (Nat → Nat) × Int := if codeL p [f] = 0 then (if 0 ≤ k ∧ k ≤ 1000000000000 then (if deg f * k ≤ 63 then (pgR (prd p.toNat) 64 k.toNat oneP f, 0) else (fun _ => 0, 3)) else (fun _ => 0, 2)) else (fun _ => 0, 1)
theorem pqV_1 {p k : Int} {f : Nat → Nat} (h : codeL p [f] = 1) : pqV p f k = (fun _ => 0, 1) := by unfold pqV; rw [if_neg (by omega)]
theorem pqV_2 {p k : Int} {f : Nat → Nat} (h : codeL p [f] = 0) (h2 : ¬ (0 ≤ k ∧ k ≤ 1000000000000)) : pqV p f k = (fun _ => 0, 2) := by unfold pqV; rw [if_pos h, if_neg h2]
theorem pqV_3 {p k : Int} {f : Nat → Nat} (h : codeL p [f] = 0) (h2 : 0 ≤ k ∧ k ≤ 1000000000000) (h3 : ¬ deg f * k ≤ 63) : pqV p f k = (fun _ => 0, 3) := by unfold pqV; rw [if_pos h, if_pos h2, if_neg h3]
theorem pqV_0 {n k : Nat} {f : Nat → Nat} (h : codeL (n : Int) [f] = 0) (h2 : 0 ≤ (k : Int) ∧ (k : Int) ≤ 1000000000000) (h3 : deg f * (k : Int) ≤ 63) : pqV (n : Int) f (k : Int) = (pgR (prd n) 64 k oneP f, 0) := by
  unfold pqV; rw [if_pos h, if_pos h2, if_pos h3]; rfl
set_option maxRecDepth 100000 in
set_option maxHeartbeats 1600000 in
theorem impl_PowerOf_any (p : Int) (f : Nat → Nat) (k : Int) (hf : byte f) (w : World) :
    Calls Try.prog 25 #[.int .i64 p, .agg (bcells 64 f), .int .i64 k] w fun e w' => e = .returned (.tuple #[.agg (bcells 64 (pqV p f k).1), .int .i64 (pqV p f k).2]) ∧ Below w.heap.size w w' := by
  go_enter Try.func25, Try.ntmps25
  go_upto_region 1 with (fail)
  rw [← zero64]
  obtain ⟨W1, hwo⟩ : ∃ v : World, v = (((w.alloc (.cells #[(.int .i64 p)] 2)).alloc (.cells (bcells 64 (f)) 23)).alloc (.cells (bcells 64 fun _ => 0) 23)) := ⟨_, rfl⟩
  have B0 : One W1 (w.heap.size) 2 (.int .i64 p) := by subst hwo; have := (((One.new w 2 (.int .i64 p)).alloc (.cells (bcells 64 (f)) 23)).alloc (.cells (bcells 64 fun _ => 0) 23)); simpa using this
  have B1 : Blk W1 (w.heap.size + 1) 64 23 (f) := by subst hwo; have := ((Blk.new (w.alloc (.cells #[(.int .i64 p)] 2)) 64 23 (f)).alloc (.cells (bcells 64 fun _ => 0) 23)); simpa using this
  have B2 : Blk W1 (w.heap.size + 1 + 1) 64 23 (fun _ => 0) := by subst hwo; have := (Blk.new ((w.alloc (.cells #[(.int .i64 p)] 2)).alloc (.cells (bcells 64 (f)) 23)) 64 23 (fun _ => 0)); simpa using this
  have hb : Below w.heap.size w W1 := by subst hwo; exact ((((Below.refl _ _).alloc (Nat.le_refl _) _).alloc (by simp) _).alloc (by simp; omega) _)
  rw [← hwo]
  clear hwo
  go_upto_region 2 with (first | (refine wpList_load_one rfl 2 (.tmp 3) rfl _ rfl 2 (.int .i64 p) B0 _ Try.underlying2 rfl ?_) | (refine wpList_load_any rfl 23 (.tmp 4) rfl _ rfl 64 23 _ B1 _ Try.underlying23 rfl Try.size23 ?_) | (refine wpList_build_polys rfl 47 _ [f] rfl 23 rfl Try.underlying47 Try.elem23 (by simp) (by simp) rfl ?_; intro wa hwa hps hba; clear hwa) | (go_at_call 77; refine (checkPolys_any p [f] (by simp [hf]) _ _ hps (by simp)).mono ?_; rintro e W2 ⟨rfl, hbb⟩))
  have hBB : Below W1.heap.size W1 W2 := hba.trans (hbb.mono hba.size)
  replace B0 := B0.below hBB B0.lt
  replace B1 := B1.below hBB B1.lt
  replace B2 := B2.below hBB B2.lt
  replace hb := hb.trans (hBB.mono hb.size)
  clear hBB hba hbb hps
  rcases codeL_two p [f] with hc | hc
  · obtain ⟨n, hn, n2, n7⟩ := okP_nat (codeL_zero hc).1
    subst hn
    have lf := lt_of_code hc (f := f) (by simp)
    have hpr := prime_of hc
    by_cases hr : 0 ≤ k ∧ k ≤ 1000000000000
    · obtain ⟨k, rfl⟩ : ∃ j : Nat, k = (j : Int) := ⟨k.toNat, by omega⟩
      have hr1 := hr.1; have hr2 := hr.2
      obtain ⟨fb1, fb2⟩ := deg_bounds f
      have mb1 : -1000000000000 ≤ deg f * (k : Int) := by
        have h := Int.mul_le_mul_of_nonneg_right fb1 hr1
        omega
      have mb2 : deg f * (k : Int) ≤ 63000000000000 := by
        have h := Int.mul_le_mul_of_nonneg_right fb2 hr1
        omega
      by_cases hlim : deg f * (k : Int) ≤ 63
      · have HV := Lib.hid (pqV_0 hc hr hlim)
        have HPW := Lib.hid (fun bp W => powMul_any n f k bp W n2 n7 lf hr2)
        have hmf : ∀ (fn : Fn) (first cap : Array Value) (w : World), (Instr.makeFunc fn first cap).run Try.prog w = .ok (.func fn first cap) w := fun _ _ _ _ => rfl
        rw [hc]
        clear hc hr
        go_upto_region 6 with (fail)
        go_upto_region 8 with (first | (refine wpList_load_any rfl 23 (.tmp 4) rfl _ rfl 64 23 _ (B1) _ Try.underlying23 rfl Try.size23 ?_) | (go_at_call 78; refine (degree_any f _).mono ?_; rintro e W3 ⟨rfl, hW3⟩; replace B0 := B0.below hW3 B0.lt; replace B1 := B1.below hW3 B1.lt; replace B2 := B2.below hW3 B2.lt; replace hb := (hb).trans (hW3.mono (hb).size)))
        go_upto_region 9 with (fail)
        clear hmf
        have lt_B0 := B0.lt
        have lt_B1 := B1.lt
        have lt_B2 := B2.lt
        go_wp2_with (first | rw [← zero64] | (refine wpList_load_any rfl 23 (.tmp 4) rfl _ rfl 64 23 _ (B1) _ Try.underlying23 rfl Try.size23 ?_) | (go_at_call 81; refine (HPW.out _ _ B0).mono ?_; rintro e W4 ⟨rfl, hW4⟩; replace B0 := B0.below hW4 B0.lt; replace B1 := B1.below hW4 B1.lt; replace B2 := B2.below hW4 B2.lt; replace hb := (hb).trans (hW4.mono (hb).size)) | (refine wpList_store_blk rfl 23 (.tmp 6) (.tmp 35) rfl _ 64 (pgR (prd n) 64 k oneP f) rfl rfl 23 _ (B2) Try.size23 ?_; try simp only [Act.put]; go_wp2_with fail))
        have qB0 : One (W4.setRow (w.heap.size + 1 + 1) (bcells 64 (pgR (prd n) 64 k oneP f))) (w.heap.size) 2 (.int .i64 (n : Int)) := (B0.rowOther (by omega))
        have qB1 : Blk (W4.setRow (w.heap.size + 1 + 1) (bcells 64 (pgR (prd n) 64 k oneP f))) (w.heap.size + 1) 64 23 (f) := (B1.rowOther (by omega))
        have qB2 : Blk (W4.setRow (w.heap.size + 1 + 1) (bcells 64 (pgR (prd n) 64 k oneP f))) (w.heap.size + 1 + 1) 64 23 (pgR (prd n) 64 k oneP f) := (B2.row (pgR (prd n) 64 k oneP f))
        have qhb : Below w.heap.size w (W4.setRow (w.heap.size + 1 + 1) (bcells 64 (pgR (prd n) 64 k oneP f))) := (below_row hb (by omega) _)
        obtain ⟨W5, hwo⟩ : ∃ v : World, v = (W4.setRow (w.heap.size + 1 + 1) (bcells 64 (pgR (prd n) 64 k oneP f))) := ⟨_, rfl⟩
        rw [← hwo] at qB0 qB1 qB2 qhb ⊢
        clear hwo
        clear B0 B1 B2 hb
        have B0 := qB0
        have B1 := qB1
        have B2 := qB2
        have hb := qhb
        clear qB0 qB1 qB2 qhb
        try simp only [Act.put, List.setIfInBounds_toArray, List.set_cons_zero, List.set_cons_succ]
        refine bodyPost_ret (results_bt rfl _ _ _ 64 23 5 _ rfl B2 Try.underlying23 Try.size23) rfl ⟨by first | (rw [HV.out]; rfl) | rw [HV.out], hb⟩
      · have HV := Lib.hid (pqV_3 hc hr hlim)
        have hlim2 : 63 < deg f * (k : Int) := by omega
        rw [hc]
        clear hc hr
        go_upto_region 6 with (fail)
        go_upto_region 7 with (first | (refine wpList_load_any rfl 23 (.tmp 4) rfl _ rfl 64 23 _ (B1) _ Try.underlying23 rfl Try.size23 ?_) | (go_at_call 78; refine (degree_any f _).mono ?_; rintro e W3 ⟨rfl, hW3⟩; replace B0 := B0.below hW3 B0.lt; replace B1 := B1.below hW3 B1.lt; replace B2 := B2.below hW3 B2.lt; replace hb := (hb).trans (hW3.mono (hb).size)))
        have lt_B0 := B0.lt
        have lt_B1 := B1.lt
        have lt_B2 := B2.lt
        go_wp2_with (first | rw [← zero64] | (refine wpList_store_blk rfl 23 (.tmp 6) (.tmp 30) rfl _ 64 (fun _ => 0) rfl rfl 23 _ (B2) Try.size23 ?_; try simp only [Act.put]; go_wp2_with fail))
        have qB0 : One (W3.setRow (w.heap.size + 1 + 1) (bcells 64 (fun _ => 0))) (w.heap.size) 2 (.int .i64 (n : Int)) := (B0.rowOther (by omega))
        have qB1 : Blk (W3.setRow (w.heap.size + 1 + 1) (bcells 64 (fun _ => 0))) (w.heap.size + 1) 64 23 (f) := (B1.rowOther (by omega))
        have qB2 : Blk (W3.setRow (w.heap.size + 1 + 1) (bcells 64 (fun _ => 0))) (w.heap.size + 1 + 1) 64 23 (fun _ => 0) := (B2.row (fun _ => 0))
        have qhb : Below w.heap.size w (W3.setRow (w.heap.size + 1 + 1) (bcells 64 (fun _ => 0))) := (below_row hb (by omega) _)
        obtain ⟨W4, hwo⟩ : ∃ v : World, v = (W3.setRow (w.heap.size + 1 + 1) (bcells 64 (fun _ => 0))) := ⟨_, rfl⟩
        rw [← hwo] at qB0 qB1 qB2 qhb ⊢
        clear hwo
        clear B0 B1 B2 hb
        have B0 := qB0
        have B1 := qB1
        have B2 := qB2
        have hb := qhb
        clear qB0 qB1 qB2 qhb
        try simp only [Act.put, List.setIfInBounds_toArray, List.set_cons_zero, List.set_cons_succ]
        refine bodyPost_ret (results_bt rfl _ _ _ 64 23 5 _ rfl B2 Try.underlying23 Try.size23) rfl ⟨by first | (rw [HV.out]; rfl) | rw [HV.out], hb⟩
    · have HV := Lib.hid (pqV_2 hc hr)
      rw [hc]
      clear hc
      by_cases h1 : k < 0
      · clear hr
        go_upto_region 5 with (fail)
        have lt_B0 := B0.lt
        have lt_B1 := B1.lt
        have lt_B2 := B2.lt
        go_wp2_with (first | rw [← zero64] | (refine wpList_store_blk rfl 23 (.tmp 6) (.tmp 24) rfl _ 64 (fun _ => 0) rfl rfl 23 _ (B2) Try.size23 ?_; try simp only [Act.put]; go_wp2_with fail))
        have qB0 : One (W2.setRow (w.heap.size + 1 + 1) (bcells 64 (fun _ => 0))) (w.heap.size) 2 (.int .i64 (n : Int)) := (B0.rowOther (by omega))
        have qB1 : Blk (W2.setRow (w.heap.size + 1 + 1) (bcells 64 (fun _ => 0))) (w.heap.size + 1) 64 23 (f) := (B1.rowOther (by omega))
        have qB2 : Blk (W2.setRow (w.heap.size + 1 + 1) (bcells 64 (fun _ => 0))) (w.heap.size + 1 + 1) 64 23 (fun _ => 0) := (B2.row (fun _ => 0))
        have qhb : Below w.heap.size w (W2.setRow (w.heap.size + 1 + 1) (bcells 64 (fun _ => 0))) := (below_row hb (by omega) _)
        obtain ⟨W3, hwo⟩ : ∃ v : World, v = (W2.setRow (w.heap.size + 1 + 1) (bcells 64 (fun _ => 0))) := ⟨_, rfl⟩
        rw [← hwo] at qB0 qB1 qB2 qhb ⊢
        clear hwo
        clear B0 B1 B2 hb
        have B0 := qB0
        have B1 := qB1
        have B2 := qB2
        have hb := qhb
        clear qB0 qB1 qB2 qhb
        try simp only [Act.put, List.setIfInBounds_toArray, List.set_cons_zero, List.set_cons_succ]
        refine bodyPost_ret (results_bt rfl _ _ _ 64 23 5 _ rfl B2 Try.underlying23 Try.size23) rfl ⟨by first | (rw [HV.out]; rfl) | rw [HV.out], hb⟩
      · have h2 : 1000000000000 < k := by omega
        clear hr
        go_upto_region 5 with (fail)
        have lt_B0 := B0.lt
        have lt_B1 := B1.lt
        have lt_B2 := B2.lt
        go_wp2_with (first | rw [← zero64] | (refine wpList_store_blk rfl 23 (.tmp 6) (.tmp 24) rfl _ 64 (fun _ => 0) rfl rfl 23 _ (B2) Try.size23 ?_; try simp only [Act.put]; go_wp2_with fail))
        have qB0 : One (W2.setRow (w.heap.size + 1 + 1) (bcells 64 (fun _ => 0))) (w.heap.size) 2 (.int .i64 (n : Int)) := (B0.rowOther (by omega))
        have qB1 : Blk (W2.setRow (w.heap.size + 1 + 1) (bcells 64 (fun _ => 0))) (w.heap.size + 1) 64 23 (f) := (B1.rowOther (by omega))
        have qB2 : Blk (W2.setRow (w.heap.size + 1 + 1) (bcells 64 (fun _ => 0))) (w.heap.size + 1 + 1) 64 23 (fun _ => 0) := (B2.row (fun _ => 0))
        have qhb : Below w.heap.size w (W2.setRow (w.heap.size + 1 + 1) (bcells 64 (fun _ => 0))) := (below_row hb (by omega) _)
        obtain ⟨W3, hwo⟩ : ∃ v : World, v = (W2.setRow (w.heap.size + 1 + 1) (bcells 64 (fun _ => 0))) := ⟨_, rfl⟩
        rw [← hwo] at qB0 qB1 qB2 qhb ⊢
        clear hwo
        clear B0 B1 B2 hb
        have B0 := qB0
        have B1 := qB1
        have B2 := qB2
        have hb := qhb
        clear qB0 qB1 qB2 qhb
        try simp only [Act.put, List.setIfInBounds_toArray, List.set_cons_zero, List.set_cons_succ]
        refine bodyPost_ret (results_bt rfl _ _ _ 64 23 5 _ rfl B2 Try.underlying23 Try.size23) rfl ⟨by first | (rw [HV.out]; rfl) | rw [HV.out], hb⟩
  · have HV := Lib.hid (pqV_1 (k := k) hc)
    rw [hc]
    clear hc
    go_upto_region 3 with (fail)
    have lt_B0 := B0.lt
    have lt_B1 := B1.lt
    have lt_B2 := B2.lt
    go_wp2_with (first | rw [← zero64] | (refine wpList_store_blk rfl 23 (.tmp 6) (.tmp 16) rfl _ 64 (fun _ => 0) rfl rfl 23 _ (B2) Try.size23 ?_; try simp only [Act.put]; go_wp2_with fail))
    have qB0 : One (W2.setRow (w.heap.size + 1 + 1) (bcells 64 (fun _ => 0))) (w.heap.size) 2 (.int .i64 p) := (B0.rowOther (by omega))
    have qB1 : Blk (W2.setRow (w.heap.size + 1 + 1) (bcells 64 (fun _ => 0))) (w.heap.size + 1) 64 23 (f) := (B1.rowOther (by omega))
    have qB2 : Blk (W2.setRow (w.heap.size + 1 + 1) (bcells 64 (fun _ => 0))) (w.heap.size + 1 + 1) 64 23 (fun _ => 0) := (B2.row (fun _ => 0))
    have qhb : Below w.heap.size w (W2.setRow (w.heap.size + 1 + 1) (bcells 64 (fun _ => 0))) := (below_row hb (by omega) _)
    obtain ⟨W3, hwo⟩ : ∃ v : World, v = (W2.setRow (w.heap.size + 1 + 1) (bcells 64 (fun _ => 0))) := ⟨_, rfl⟩
    rw [← hwo] at qB0 qB1 qB2 qhb ⊢
    clear hwo
    clear B0 B1 B2 hb
    have B0 := qB0
    have B1 := qB1
    have B2 := qB2
    have hb := qhb
    clear qB0 qB1 qB2 qhb
    try simp only [Act.put, List.setIfInBounds_toArray, List.set_cons_zero, List.set_cons_succ]
    refine bodyPost_ret (results_bt rfl _ _ _ 64 23 5 _ rfl B2 Try.underlying23 Try.size23) rfl ⟨by first | (rw [HV.out]; rfl) | rw [HV.out], hb⟩
set_option maxRecDepth 100000 in
set_option maxHeartbeats 1600000 in
theorem spec_PowerOf_any (p : Int) (f : Nat → Nat) (k : Int) (hf : byte f) (w : World) :
    Calls Try.prog 23 #[.int .i64 p, .agg (bcells 64 f), .int .i64 k] w fun e w' => e = .returned (.tuple #[.agg (bcells 64 (pqV p f k).1), .int .i64 (pqV p f k).2]) ∧ Below w.heap.size w w' := by
  go_enter Try.func23, Try.ntmps23
  go_upto_region 1 with (fail)
  rw [← zero64]
  obtain ⟨W1, hwo⟩ : ∃ v : World, v = ((w.alloc (.cells (bcells 64 (f)) 23)).alloc (.cells (bcells 64 fun _ => 0) 23)) := ⟨_, rfl⟩
  have B0 : Blk W1 (w.heap.size) 64 23 (f) := by subst hwo; have := ((Blk.new w 64 23 (f)).alloc (.cells (bcells 64 fun _ => 0) 23)); simpa using this
  have B1 : Blk W1 (w.heap.size + 1) 64 23 (fun _ => 0) := by subst hwo; have := (Blk.new (w.alloc (.cells (bcells 64 (f)) 23)) 64 23 (fun _ => 0)); simpa using this
  have hb : Below w.heap.size w W1 := by subst hwo; exact (((Below.refl _ _).alloc (Nat.le_refl _) _).alloc (by simp) _)
  rw [← hwo]
  clear hwo
  go_upto_region 2 with (first | (refine wpList_load_any rfl 23 (.tmp 4) rfl _ rfl 64 23 _ B0 _ Try.underlying23 rfl Try.size23 ?_) | (refine wpList_build_polys rfl 47 _ [f] rfl 23 rfl Try.underlying47 Try.elem23 (by simp) (by simp) rfl ?_; intro wa hwa hps hba; clear hwa) | (go_at_call 72; refine (l01Code_any p [f] (by simp [hf]) _ _ hps (by simp)).mono ?_; rintro e W2 ⟨rfl, hbb⟩))
  have hBB : Below W1.heap.size W1 W2 := hba.trans (hbb.mono hba.size)
  replace B0 := B0.below hBB B0.lt
  replace B1 := B1.below hBB B1.lt
  replace hb := hb.trans (hBB.mono hb.size)
  clear hBB hba hbb hps
  rcases codeL_two p [f] with hc | hc
  · obtain ⟨n, hn, n2, n7⟩ := okP_nat (codeL_zero hc).1
    subst hn
    have lf := lt_of_code hc (f := f) (by simp)
    have hpr := prime_of hc
    by_cases hr : 0 ≤ k ∧ k ≤ 1000000000000
    · obtain ⟨k, rfl⟩ : ∃ j : Nat, k = (j : Int) := ⟨k.toNat, by omega⟩
      have hr1 := hr.1; have hr2 := hr.2
      obtain ⟨fb1, fb2⟩ := deg_bounds f
      have mb1 : -1000000000000 ≤ deg f * (k : Int) := by
        have h := Int.mul_le_mul_of_nonneg_right fb1 hr1
        omega
      have mb2 : deg f * (k : Int) ≤ 63000000000000 := by
        have h := Int.mul_le_mul_of_nonneg_right fb2 hr1
        omega
      by_cases hlim : deg f * (k : Int) ≤ 63
      · have HV2 := Lib.hid (show (pqV (n : Int) f (k : Int)).2 = 0 by rw [pqV_0 hc hr hlim])
        have HV := Lib.hid (pqV_0 hc hr hlim)
        have hk64 : k < 2 ^ 64 := by have h6 : (1000000000000 : Nat) < 2 ^ 64 := (by decide); omega
        rw [hc]
        clear hc hr
        go_upto_region 4 with (fail)
        go_upto_region 5 with (first | (refine wpList_load_any rfl 23 (.tmp 4) rfl _ rfl 64 23 _ (B0) _ Try.underlying23 rfl Try.size23 ?_) | (go_at_call 73; refine (l01Deg_any f _).mono ?_; rintro e W3 ⟨rfl, hW3⟩; replace B0 := B0.below hW3 B0.lt; replace B1 := B1.below hW3 B1.lt; replace hb := (hb).trans (hW3.mono (hb).size)))
        by_cases hk0 : k = 0
        · subst hk0
          have HE := Lib.hid (show bcells 64 (pqV (n : Int) f ((0 : Nat) : Int)).1 = bcells 64 oneP by rw [HV.out, pgR_z])
          go_upto_region 8 with (first | (go_at_call 74; refine (l01In_yes _ _ _ (by omega) _).mono ?_; rintro e wS ⟨rfl, rfl⟩))
          have lt_B0 := B0.lt
          have lt_B1 := B1.lt
          go_wp2_with (first | rw [← zero64] | (go_at_call 75; refine (l01One_any _).mono ?_; rintro e W4 ⟨rfl, hW4⟩; replace B0 := B0.below hW4 B0.lt; replace B1 := B1.below hW4 B1.lt; replace hb := (hb).trans (hW4.mono (hb).size)) | (refine wpList_store_blk rfl 23 (.tmp 6) (.tmp 33) rfl _ 64 (oneP) rfl rfl 23 _ (B1) Try.size23 ?_; try simp only [Act.put]; go_wp2_with fail))
          have qB0 : Blk (W4.setRow (w.heap.size + 1) (bcells 64 (oneP))) (w.heap.size) 64 23 (f) := (B0.rowOther (by omega))
          have qB1 : Blk (W4.setRow (w.heap.size + 1) (bcells 64 (oneP))) (w.heap.size + 1) 64 23 (oneP) := (B1.row (oneP))
          have qhb : Below w.heap.size w (W4.setRow (w.heap.size + 1) (bcells 64 (oneP))) := (below_row hb (by omega) _)
          obtain ⟨W5, hwo⟩ : ∃ v : World, v = (W4.setRow (w.heap.size + 1) (bcells 64 (oneP))) := ⟨_, rfl⟩
          rw [← hwo] at qB0 qB1 qhb ⊢
          clear hwo
          clear B0 B1 hb
          have B0 := qB0
          have B1 := qB1
          have hb := qhb
          clear qB0 qB1 qhb
          try simp only [Act.put, List.setIfInBounds_toArray, List.set_cons_zero, List.set_cons_succ]
          refine bodyPost_ret (results_bt rfl _ _ _ 64 23 5 _ rfl B1 Try.underlying23 Try.size23) rfl ⟨by first | (rw [HE.out, HV2.out]; rfl) | rw [HE.out, HV2.out], hb⟩
        · have hkz : ¬ (k : Int) = 0 := by omega
          have hkp : 0 < (k : Int) := by omega
          have hkn : ((k : Int) == 0) = false := by simp; omega
          go_upto_region 9 with (first | (go_at_call 74; refine (l01In_any _ _ _ _).mono ?_; rintro e wS ⟨rfl, rfl⟩; rw [show decide ((0 : Int) ≤ (k : Int) ∧ (k : Int) ≤ 1000000000000) = true by simp; omega]))
          clear hkn
          by_cases hneg : deg f < 0
          · have HE := Lib.hid (show bcells 64 (pqV (n : Int) f (k : Int)).1 = bcells 64 (fun _ => 0) by rw [HV.out]; exact (bcells_congr (zero_same n2 hneg (by omega) hk64)).symm)
            go_upto_region 10 with (fail)
            have lt_B0 := B0.lt
            have lt_B1 := B1.lt
            go_wp2_with (first | rw [← zero64] | (refine wpList_store_blk rfl 23 (.tmp 6) (.tmp 37) rfl _ 64 (fun _ => 0) rfl rfl 23 _ (B1) Try.size23 ?_; try simp only [Act.put]; go_wp2_with fail))
            have qB0 : Blk (W3.setRow (w.heap.size + 1) (bcells 64 (fun _ => 0))) (w.heap.size) 64 23 (f) := (B0.rowOther (by omega))
            have qB1 : Blk (W3.setRow (w.heap.size + 1) (bcells 64 (fun _ => 0))) (w.heap.size + 1) 64 23 (fun _ => 0) := (B1.row (fun _ => 0))
            have qhb : Below w.heap.size w (W3.setRow (w.heap.size + 1) (bcells 64 (fun _ => 0))) := (below_row hb (by omega) _)
            obtain ⟨W4, hwo⟩ : ∃ v : World, v = (W3.setRow (w.heap.size + 1) (bcells 64 (fun _ => 0))) := ⟨_, rfl⟩
            rw [← hwo] at qB0 qB1 qhb ⊢
            clear hwo
            clear B0 B1 hb
            have B0 := qB0
            have B1 := qB1
            have hb := qhb
            clear qB0 qB1 qhb
            try simp only [Act.put, List.setIfInBounds_toArray, List.set_cons_zero, List.set_cons_succ]
            refine bodyPost_ret (results_bt rfl _ _ _ 64 23 5 _ rfl B1 Try.underlying23 Try.size23) rfl ⟨by first | (rw [HE.out, HV2.out]; rfl) | rw [HE.out, HV2.out], hb⟩
          · by_cases hd0 : deg f = 0
            · obtain ⟨KK, hKK⟩ : ∃ KK, KK = k % (n - 1) := ⟨_, rfl⟩
              obtain ⟨C, hC⟩ : ∃ C, C = f 0 := ⟨_, rfl⟩
              have hCl := lf 0 (by omega)
              rw [← hC] at hCl
              have HE := Lib.hid (show bcells 64 (pqV (n : Int) f (k : Int)).1 = bcells 64 (fun i => if i = 0 then cpN n C KK else 0) by rw [HV.out, hKK, hC]; exact (bcells_congr (const_same hpr lf hd0 hk64)).symm)
              have hKi : (k : Int).tmod ((n : Int) - 1) = (KK : Int) := by
                rw [hKK, Int.tmod_eq_emod_of_nonneg (by omega), show (n : Int) - 1 = ((n - 1 : Nat) : Int) by omega]; rfl
              have hn1 : ¬ (n : Int) - 1 = 0 := by omega
              have HCC := Lib.hid (show Blk W3 (w.heap.size) 64 23 (f) from B0)
              have hd1 : (deg f == 0) = true := by simp [hd0]
              have hdn : ¬ deg f < 0 := by omega
              have hKK7 : KK ≤ 7 := by
                rw [hKK]; have := Nat.mod_lt k (show 0 < n - 1 by omega); omega
              have HC := Lib.hid hC
              have HLT := Lib.hid (fun j => cpN_lt (p := n) (a := C) n2 j)
              have HCS := Lib.hid (show ∀ j, cpN n C (j + 1) = cpN n C j * C % n from fun j => by rw [cpN])
              have HC0 := Lib.hid (show cpN n C 0 = 1 by rw [cpN])
              clear hC hKK HCC hkz hd0 hneg
              go_upto_region 13 with (fail)
              clear hd1
              go_wp2_with fail
              go_loopw [10, 11] (fun s i wr => ∃ q j : Nat, Hid (q + j = KK) ∧ s = .int .i64 ((cpN n C j : Nat) : Int) ∧ i = .int .i64 (q : Int) ∧ Below w.heap.size w wr ∧ Blk wr (w.heap.size) 64 23 (f) ∧ Blk wr (w.heap.size + 1) 64 23 (fun _ => 0)) (fun _ i _ => (intOf i).toNat)
              case atStart => exact ⟨KK, 0, Lib.hid (by omega), by rw [HC0.out]; rfl, rfl, hb, B0, B1⟩
              case round =>
                clear hb B0 B1
                obtain ⟨q, j, hqj, rfl, rfl, hb, B0, B1⟩ := hrel
                by_cases hq0 : q = 0
                · subst hq0
                  have ej : j = KK := by have := hqj.out; omega
                  have hlt := HLT.out j
                  obtain ⟨hv, hhv⟩ : ∃ hv, hv = cpN n C j := ⟨_, rfl⟩
                  rw [← ej, ← hhv] at HE
                  rw [← hhv] at hlt ⊢
                  clear hhv ej hqj
                  go_upto_region 17 with (fail)
                  have lt_B0 := B0.lt
                  have lt_B1 := B1.lt
                  go_wp2_with (first | rw [lit_c hv] | rw [← zero64] | (refine wpList_build_of rfl 23 _ rfl (bcells 64 fun k => if k = 0 then hv else 0) (by rw [Array.toList_map]; exact built_c hv) ?_) | (refine wpList_store_blk rfl 23 (.tmp 6) (.tmp 58) rfl _ 64 (fun k => if k = 0 then hv else 0) rfl rfl 23 _ (B1) Try.size23 ?_; try simp only [Act.put]; go_wp2_with fail))
                  have qB0 : Blk (wr.setRow (w.heap.size + 1) (bcells 64 (fun k => if k = 0 then hv else 0))) (w.heap.size) 64 23 (f) := (B0.rowOther (by omega))
                  have qB1 : Blk (wr.setRow (w.heap.size + 1) (bcells 64 (fun k => if k = 0 then hv else 0))) (w.heap.size + 1) 64 23 (fun k => if k = 0 then hv else 0) := (B1.row (fun k => if k = 0 then hv else 0))
                  have qhb : Below w.heap.size w (wr.setRow (w.heap.size + 1) (bcells 64 (fun k => if k = 0 then hv else 0))) := (below_row hb (by omega) _)
                  obtain ⟨W4, hwo⟩ : ∃ v : World, v = (wr.setRow (w.heap.size + 1) (bcells 64 (fun k => if k = 0 then hv else 0))) := ⟨_, rfl⟩
                  rw [← hwo] at qB0 qB1 qhb ⊢
                  clear hwo
                  clear B0 B1 hb
                  have B0 := qB0
                  have B1 := qB1
                  have hb := qhb
                  clear qB0 qB1 qhb
                  try simp only [Act.put, List.setIfInBounds_toArray, List.set_cons_zero, List.set_cons_succ]
                  refine bodyPost_ret (results_bt rfl _ _ _ 64 23 5 _ rfl B1 Try.underlying23 Try.size23) rfl ⟨by first | (rw [HE.out, HV2.out]; rfl) | rw [HE.out, HV2.out], hb⟩
                · obtain ⟨q, rfl⟩ : ∃ t, q = t + 1 := ⟨q - 1, by omega⟩
                  have hqi : 0 < ((q + 1 : Nat) : Int) := by omega
                  have hq7 : q ≤ 7 := by have := hqj.out; omega
                  have hlt := HLT.out j
                  have HSJ := Lib.hid (HCS.out j)
                  obtain ⟨A, hA⟩ : ∃ A, A = cpN n C j := ⟨_, rfl⟩
                  rw [← hA] at hlt HSJ ⊢
                  have HA := Lib.hid hA
                  have hm1 : (0 : Int) ≤ (A : Int) * (C : Int) := Int.mul_nonneg (by omega) (by omega)
                  have hm2 : (A : Int) * (C : Int) ≤ 49 := by
                    have := Int.mul_le_mul (show (A : Int) ≤ 7 by omega) (show (C : Int) ≤ 7 by omega) (by omega) (by omega)
                    omega
                  obtain ⟨V, hV⟩ : ∃ V, V = A * C % n := ⟨_, rfl⟩
                  have hVi : ((A : Int) * (C : Int)).tmod (n : Int) = (V : Int) := by rw [hV, Int.tmod_eq_emod_of_nonneg hm1]; push_cast; rfl
                  have HVV := Lib.hid hV
                  have hnz : ¬ (n : Int) = 0 := by omega
                  clear hA hV
                  have cc := B0.cell (i := 0) (by omega)
                  rw [← HC.out] at cc
                  go_wp2_with fail
                  go_roundw
                  case rel => exact ⟨q, j + 1, Lib.hid (by have := hqj.out; omega), by rw [HSJ.out, ← HVV.out], by go_num, hb, B0, B1⟩
                  case measure => simp [intOf] <;> omega
            · obtain ⟨d, hd⟩ : ∃ d : Nat, deg f = (d : Int) := ⟨(deg f).toNat, by omega⟩
              have hdk : d * k ≤ 63 := by rw [hd] at hlim; exact_mod_cast hlim
              have hd1 : 1 ≤ d := by omega
              have hk63 : k ≤ 63 := by
                have := Nat.mul_le_mul_right k hd1
                omega
              have HE := Lib.hid (show bcells 64 (pqV (n : Int) f (k : Int)).1 = bcells 64 (exP n f k) by rw [HV.out]; exact (bcells_congr (exP_same n2 hd hdk hk64)).symm)
              have HEX := Lib.hid (fun j (hj : d * j ≤ 63) => exP_ok n2 hd j hj)
              have HXS := Lib.hid (show ∀ j, exP n f (j + 1) = prd n (exP n f j) f from fun j => by rw [exP])
              have HX0 := Lib.hid (show exP n f 0 = oneP by rw [exP])
              have HDD := Lib.hid hd
              have HDK := Lib.hid hdk
              have hg1 : ¬ 63 < (k : Int) := by omega
              have hg2 : ¬ 63 < deg f * (k : Int) := by omega
              have hd2 : (deg f == 0) = false := by simp; omega
              clear hd hdk hkz
              go_upto_region 20 with (fail)
              clear hd2 hg1 hg2
              have lt_B0 := B0.lt
              have lt_B1 := B1.lt
              go_upto_region 99 with (first | rw [← zero64] | (go_at_call 75; refine (l01One_any _).mono ?_; rintro e W4 ⟨rfl, hW4⟩; replace B0 := B0.below hW4 B0.lt; replace B1 := B1.below hW4 B1.lt; replace hb := (hb).trans (hW4.mono (hb).size)) | (refine wpList_store_blk rfl 23 (.tmp 12) (.tmp 69) rfl _ 64 (oneP) rfl rfl 23 _ ((Blk.new W4 64 23 (fun _ => 0))) Try.size23 ?_; try simp only [Act.put]))
              have lt_B0 := B0.lt
              have lt_B1 := B1.lt
              have lhb := hb.size
              have qB0 : Blk ((W4.alloc (.cells (bcells 64 fun _ => 0) 23)).setRow (W4.heap.size) (bcells 64 (oneP))) (w.heap.size) 64 23 (f) := ((B0.alloc (.cells (bcells 64 fun _ => 0) 23)).rowOther (by omega))
              have qB1 : Blk ((W4.alloc (.cells (bcells 64 fun _ => 0) 23)).setRow (W4.heap.size) (bcells 64 (oneP))) (w.heap.size + 1) 64 23 (fun _ => 0) := ((B1.alloc (.cells (bcells 64 fun _ => 0) 23)).rowOther (by omega))
              have qB2 : Blk ((W4.alloc (.cells (bcells 64 fun _ => 0) 23)).setRow (W4.heap.size) (bcells 64 (oneP))) (W4.heap.size) 64 23 (oneP) := ((Blk.new W4 64 23 (fun _ => 0)).row (oneP))
              have qhb : Below w.heap.size w ((W4.alloc (.cells (bcells 64 fun _ => 0) 23)).setRow (W4.heap.size) (bcells 64 (oneP))) := (below_row (hb.alloc (by have := hb.size; simp; omega) (.cells (bcells 64 fun _ => 0) 23)) (by omega) _)
              obtain ⟨W5, hwo⟩ : ∃ v : World, v = ((W4.alloc (.cells (bcells 64 fun _ => 0) 23)).setRow (W4.heap.size) (bcells 64 (oneP))) := ⟨_, rfl⟩
              rw [← hwo] at qB0 qB1 qB2 qhb ⊢
              clear hwo
              clear B0 B1 hb
              have B0 := qB0
              have B1 := qB1
              have B2 := qB2
              have hb := qhb
              clear qB0 qB1 qB2 qhb
              obtain ⟨N1, hNN⟩ : ∃ n : Nat, n = W4.heap.size := ⟨_, rfl⟩
              rw [← hNN] at lt_B0 lt_B1 lhb B2 ⊢
              clear hNN
              have zN1_0 := lt_B0
              have zN1_1 := lt_B1
              have zN1 := lhb
              clear lt_B0 lt_B1 lhb
              try simp only [Act.put, List.setIfInBounds_toArray, List.set_cons_zero, List.set_cons_succ]
              obtain ⟨K0, hK0⟩ : ∃ K0, K0 = k := ⟨_, rfl⟩
              rw [← hK0] at HE HDK hk63
              have HK0 := Lib.hid hK0
              clear hK0
              go_loopw [2] (fun i wr => ∃ q j : Nat, Hid (q + j = K0) ∧ i = .int .i64 (q : Int) ∧ Below w.heap.size w wr ∧ Blk wr (w.heap.size) 64 23 (f) ∧ Blk wr (w.heap.size + 1) 64 23 (fun _ => 0) ∧ Blk wr (N1) 64 23 (exP n f j)) (fun i _ => (intOf i).toNat)
              case atStart => exact ⟨k, 0, Lib.hid (by have := HK0.out; omega), rfl, hb, B0, B1, by rw [HX0.out]; exact B2⟩
              case round =>
                clear hb B0 B1 B2 hkp
                obtain ⟨q, j, hqj, rfl, hb, B0, B1, B2⟩ := hrel
                by_cases hq0 : q = 0
                · subst hq0
                  have ej : j = K0 := by have := hqj.out; omega
                  rw [ej] at B2
                  clear hqj ej
                  go_upto_region 25 with (fail)
                  have lt_B0 := B0.lt
                  have lt_B1 := B1.lt
                  have lt_B2 := B2.lt
                  go_wp2_with (first | rw [← zero64] | (refine wpList_load_any rfl 23 (.tmp 12) rfl _ rfl 64 23 _ (B2) _ Try.underlying23 rfl Try.size23 ?_) | (refine wpList_store_blk rfl 23 (.tmp 6) (.tmp 82) rfl _ 64 (exP n f K0) rfl rfl 23 _ (B1) Try.size23 ?_; try simp only [Act.put]; go_wp2_with fail))
                  have qB0 : Blk (wr.setRow (w.heap.size + 1) (bcells 64 (exP n f K0))) (w.heap.size) 64 23 (f) := (B0.rowOther (by omega))
                  have qB1 : Blk (wr.setRow (w.heap.size + 1) (bcells 64 (exP n f K0))) (w.heap.size + 1) 64 23 (exP n f K0) := (B1.row (exP n f K0))
                  have qB2 : Blk (wr.setRow (w.heap.size + 1) (bcells 64 (exP n f K0))) (N1) 64 23 (exP n f K0) := (B2.rowOther (by omega))
                  have qhb : Below w.heap.size w (wr.setRow (w.heap.size + 1) (bcells 64 (exP n f K0))) := (below_row hb (by omega) _)
                  obtain ⟨W6, hwo⟩ : ∃ v : World, v = (wr.setRow (w.heap.size + 1) (bcells 64 (exP n f K0))) := ⟨_, rfl⟩
                  rw [← hwo] at qB0 qB1 qB2 qhb ⊢
                  clear hwo
                  clear B0 B1 B2 hb
                  have B0 := qB0
                  have B1 := qB1
                  have B2 := qB2
                  have hb := qhb
                  clear qB0 qB1 qB2 qhb
                  try simp only [Act.put, List.setIfInBounds_toArray, List.set_cons_zero, List.set_cons_succ]
                  refine bodyPost_ret (results_bt rfl _ _ _ 64 23 5 _ rfl B1 Try.underlying23 Try.size23) rfl ⟨by rw [← HK0.out]; first | (rw [HE.out]; rw [← HK0.out] at HV2; rw [HV2.out]; rfl) | (rw [HE.out]; rw [← HK0.out] at HV2; rw [HV2.out]), hb⟩
                · obtain ⟨q, rfl⟩ : ∃ t, q = t + 1 := ⟨q - 1, by omega⟩
                  have hqi : 0 < ((q + 1 : Nat) : Int) := by omega
                  have hq63 : q ≤ 63 := by have := hqj.out; omega
                  have hdj : d * (j + 1) ≤ 63 := by
                    have h1 := Nat.mul_le_mul_left d (show j + 1 ≤ K0 by have := hqj.out; omega)
                    have := HDK.out
                    omega
                  rw [Nat.mul_succ] at hdj
                  obtain ⟨s1, s2, _⟩ := HEX.out j (by omega)
                  have HTM := Lib.hid (fun W => l01Times_any n (exP n f j) f W n2 n7 s1 lf)
                  have HTV := Lib.hid (show tmV n (exP n f j) f = (exP n f (j + 1), true) by
                    rw [HXS.out]
                    exact if_pos (by have := HDD.out; omega))
                  clear s1 s2 hdj
                  go_upto_region 23 with (fail)
                  have lt_B0 := B0.lt
                  have lt_B1 := B1.lt
                  have lt_B2 := B2.lt
                  go_upto_region 24 with (first | rw [← zero64] | (refine wpList_load_any rfl 23 (.tmp 12) rfl _ rfl 64 23 _ (B2) _ Try.underlying23 rfl Try.size23 ?_) | (refine wpList_load_any rfl 23 (.tmp 4) rfl _ rfl 64 23 _ (B0) _ Try.underlying23 rfl Try.size23 ?_) | (go_at_call 76; refine (HTM.out _).mono ?_; rintro e W6 ⟨rfl, hW6⟩; replace B0 := B0.below hW6 B0.lt; replace B1 := B1.below hW6 B1.lt; replace B2 := B2.below hW6 B2.lt; replace hb := (hb).trans (hW6.mono (hb).size); rw [HTV.out]) | (refine wpList_store_blk rfl 23 (.tmp 13) (.tmp 79) rfl _ 64 (exP n f (j + 1)) rfl rfl 23 _ ((Blk.new W6 64 23 (fun _ => 0))) Try.size23 ?_; try simp only [Act.put]; go_upto_region 24 with (fail)))
                  have lt_B0 := B0.lt
                  have lt_B1 := B1.lt
                  have lt_B2 := B2.lt
                  have lhb := hb.size
                  have qB0 : Blk ((W6.alloc (.cells (bcells 64 fun _ => 0) 23)).setRow (W6.heap.size) (bcells 64 (exP n f (j + 1)))) (w.heap.size) 64 23 (f) := ((B0.alloc (.cells (bcells 64 fun _ => 0) 23)).rowOther (by omega))
                  have qB1 : Blk ((W6.alloc (.cells (bcells 64 fun _ => 0) 23)).setRow (W6.heap.size) (bcells 64 (exP n f (j + 1)))) (w.heap.size + 1) 64 23 (fun _ => 0) := ((B1.alloc (.cells (bcells 64 fun _ => 0) 23)).rowOther (by omega))
                  have qB2 : Blk ((W6.alloc (.cells (bcells 64 fun _ => 0) 23)).setRow (W6.heap.size) (bcells 64 (exP n f (j + 1)))) (N1) 64 23 (exP n f j) := ((B2.alloc (.cells (bcells 64 fun _ => 0) 23)).rowOther (by omega))
                  have qB3 : Blk ((W6.alloc (.cells (bcells 64 fun _ => 0) 23)).setRow (W6.heap.size) (bcells 64 (exP n f (j + 1)))) (W6.heap.size) 64 23 (exP n f (j + 1)) := ((Blk.new W6 64 23 (fun _ => 0)).row (exP n f (j + 1)))
                  have qhb : Below w.heap.size w ((W6.alloc (.cells (bcells 64 fun _ => 0) 23)).setRow (W6.heap.size) (bcells 64 (exP n f (j + 1)))) := (below_row (hb.alloc (by have := hb.size; simp; omega) (.cells (bcells 64 fun _ => 0) 23)) (by omega) _)
                  obtain ⟨W7, hwo⟩ : ∃ v : World, v = ((W6.alloc (.cells (bcells 64 fun _ => 0) 23)).setRow (W6.heap.size) (bcells 64 (exP n f (j + 1)))) := ⟨_, rfl⟩
                  rw [← hwo] at qB0 qB1 qB2 qB3 qhb ⊢
                  clear hwo
                  clear B0 B1 B2 hb
                  have B0 := qB0
                  have B1 := qB1
                  have B2 := qB2
                  have B3 := qB3
                  have hb := qhb
                  clear qB0 qB1 qB2 qB3 qhb
                  obtain ⟨N2, hNN⟩ : ∃ n : Nat, n = W6.heap.size := ⟨_, rfl⟩
                  rw [← hNN] at lt_B0 lt_B1 lt_B2 lhb B3 ⊢
                  clear hNN
                  have zN2_0 := lt_B0
                  have zN2_1 := lt_B1
                  have zN2_2 := lt_B2
                  have zN2 := lhb
                  clear lt_B0 lt_B1 lt_B2 lhb
                  try simp only [Act.put, List.setIfInBounds_toArray, List.set_cons_zero, List.set_cons_succ]
                  have lt_B0 := B0.lt
                  have lt_B1 := B1.lt
                  have lt_B2 := B2.lt
                  have lt_B3 := B3.lt
                  go_upto_region 22 with (first | rw [← zero64] | (refine wpList_load_any rfl 23 (.tmp 13) rfl _ rfl 64 23 _ (B3) _ Try.underlying23 rfl Try.size23 ?_) | (refine wpList_store_blk rfl 23 (.tmp 12) (.tmp 81) rfl _ 64 (exP n f (j + 1)) rfl rfl 23 _ (B2) Try.size23 ?_; try simp only [Act.put]))
                  have qB0 : Blk (W7.setRow (N1) (bcells 64 (exP n f (j + 1)))) (w.heap.size) 64 23 (f) := (B0.rowOther (by omega))
                  have qB1 : Blk (W7.setRow (N1) (bcells 64 (exP n f (j + 1)))) (w.heap.size + 1) 64 23 (fun _ => 0) := (B1.rowOther (by omega))
                  have qB2 : Blk (W7.setRow (N1) (bcells 64 (exP n f (j + 1)))) (N1) 64 23 (exP n f (j + 1)) := (B2.row (exP n f (j + 1)))
                  have qB3 : Blk (W7.setRow (N1) (bcells 64 (exP n f (j + 1)))) (N2) 64 23 (exP n f (j + 1)) := (B3.rowOther (by omega))
                  have qhb : Below w.heap.size w (W7.setRow (N1) (bcells 64 (exP n f (j + 1)))) := (below_row hb (by omega) _)
                  obtain ⟨W8, hwo⟩ : ∃ v : World, v = (W7.setRow (N1) (bcells 64 (exP n f (j + 1)))) := ⟨_, rfl⟩
                  rw [← hwo] at qB0 qB1 qB2 qB3 qhb ⊢
                  clear hwo
                  clear B0 B1 B2 B3 hb
                  have B0 := qB0
                  have B1 := qB1
                  have B2 := qB2
                  have B3 := qB3
                  have hb := qhb
                  clear qB0 qB1 qB2 qB3 qhb
                  try simp only [Act.put, List.setIfInBounds_toArray, List.set_cons_zero, List.set_cons_succ]
                  go_wp2_with fail
                  go_roundw
                  case rel => exact ⟨q, j + 1, Lib.hid (by have := hqj.out; omega), by go_num, hb, B0, B1, B2⟩
                  case measure => simp [intOf] <;> omega
      · have HV := Lib.hid (pqV_3 hc hr hlim)
        have hlim2 : 63 < deg f * (k : Int) := by omega
        have hk0 : k ≠ 0 := by
          intro h; subst h
          rw [show ((0 : Nat) : Int) = 0 from rfl, Int.mul_zero] at hlim; omega
        have hkp : 0 < (k : Int) := by omega
        have hkz : ¬ (k : Int) = 0 := by omega
        have hkn : ((k : Int) == 0) = false := by simp; omega
        have hdp : 0 < deg f := by
          apply Classical.byContradiction
          intro h
          have := Int.mul_nonpos_of_nonpos_of_nonneg (show deg f ≤ 0 by omega) hr1
          omega
        have hd2 : (deg f == 0) = false := by simp; omega
        have hdn : ¬ deg f < 0 := by omega
        rw [hc]
        clear hc hr hlim
        go_upto_region 4 with (fail)
        go_upto_region 5 with (first | (refine wpList_load_any rfl 23 (.tmp 4) rfl _ rfl 64 23 _ (B0) _ Try.underlying23 rfl Try.size23 ?_) | (go_at_call 73; refine (l01Deg_any f _).mono ?_; rintro e W3 ⟨rfl, hW3⟩; replace B0 := B0.below hW3 B0.lt; replace B1 := B1.below hW3 B1.lt; replace hb := (hb).trans (hW3.mono (hb).size)))
        by_cases hbig : 63 < (k : Int)
        · skip
          go_upto_region 19 with (first | (go_at_call 74; refine (l01In_any _ _ _ _).mono ?_; rintro e wS ⟨rfl, rfl⟩; rw [show decide ((0 : Int) ≤ (k : Int) ∧ (k : Int) ≤ 1000000000000) = true by simp; omega]))
          have lt_B0 := B0.lt
          have lt_B1 := B1.lt
          go_wp2_with (first | rw [← zero64] | (refine wpList_store_blk rfl 23 (.tmp 6) (.tmp 68) rfl _ 64 (fun _ => 0) rfl rfl 23 _ (B1) Try.size23 ?_; try simp only [Act.put]; go_wp2_with fail))
          have qB0 : Blk (W3.setRow (w.heap.size + 1) (bcells 64 (fun _ => 0))) (w.heap.size) 64 23 (f) := (B0.rowOther (by omega))
          have qB1 : Blk (W3.setRow (w.heap.size + 1) (bcells 64 (fun _ => 0))) (w.heap.size + 1) 64 23 (fun _ => 0) := (B1.row (fun _ => 0))
          have qhb : Below w.heap.size w (W3.setRow (w.heap.size + 1) (bcells 64 (fun _ => 0))) := (below_row hb (by omega) _)
          obtain ⟨W4, hwo⟩ : ∃ v : World, v = (W3.setRow (w.heap.size + 1) (bcells 64 (fun _ => 0))) := ⟨_, rfl⟩
          rw [← hwo] at qB0 qB1 qhb ⊢
          clear hwo
          clear B0 B1 hb
          have B0 := qB0
          have B1 := qB1
          have hb := qhb
          clear qB0 qB1 qhb
          try simp only [Act.put, List.setIfInBounds_toArray, List.set_cons_zero, List.set_cons_succ]
          refine bodyPost_ret (results_bt rfl _ _ _ 64 23 5 _ rfl B1 Try.underlying23 Try.size23) rfl ⟨by first | (rw [HV.out]; rfl) | rw [HV.out], hb⟩
        · skip
          go_upto_region 19 with (first | (go_at_call 74; refine (l01In_any _ _ _ _).mono ?_; rintro e wS ⟨rfl, rfl⟩; rw [show decide ((0 : Int) ≤ (k : Int) ∧ (k : Int) ≤ 1000000000000) = true by simp; omega]))
          have lt_B0 := B0.lt
          have lt_B1 := B1.lt
          go_wp2_with (first | rw [← zero64] | (refine wpList_store_blk rfl 23 (.tmp 6) (.tmp 68) rfl _ 64 (fun _ => 0) rfl rfl 23 _ (B1) Try.size23 ?_; try simp only [Act.put]; go_wp2_with fail))
          have qB0 : Blk (W3.setRow (w.heap.size + 1) (bcells 64 (fun _ => 0))) (w.heap.size) 64 23 (f) := (B0.rowOther (by omega))
          have qB1 : Blk (W3.setRow (w.heap.size + 1) (bcells 64 (fun _ => 0))) (w.heap.size + 1) 64 23 (fun _ => 0) := (B1.row (fun _ => 0))
          have qhb : Below w.heap.size w (W3.setRow (w.heap.size + 1) (bcells 64 (fun _ => 0))) := (below_row hb (by omega) _)
          obtain ⟨W4, hwo⟩ : ∃ v : World, v = (W3.setRow (w.heap.size + 1) (bcells 64 (fun _ => 0))) := ⟨_, rfl⟩
          rw [← hwo] at qB0 qB1 qhb ⊢
          clear hwo
          clear B0 B1 hb
          have B0 := qB0
          have B1 := qB1
          have hb := qhb
          clear qB0 qB1 qhb
          try simp only [Act.put, List.setIfInBounds_toArray, List.set_cons_zero, List.set_cons_succ]
          refine bodyPost_ret (results_bt rfl _ _ _ 64 23 5 _ rfl B1 Try.underlying23 Try.size23) rfl ⟨by first | (rw [HV.out]; rfl) | rw [HV.out], hb⟩
    · have HV := Lib.hid (pqV_2 hc hr)
      rw [hc]
      clear hc
      go_upto_region 4 with (fail)
      go_upto_region 5 with (first | (refine wpList_load_any rfl 23 (.tmp 4) rfl _ rfl 64 23 _ (B0) _ Try.underlying23 rfl Try.size23 ?_) | (go_at_call 73; refine (l01Deg_any f _).mono ?_; rintro e W3 ⟨rfl, hW3⟩; replace B0 := B0.below hW3 B0.lt; replace B1 := B1.below hW3 B1.lt; replace hb := (hb).trans (hW3.mono (hb).size)))
      go_upto_region 6 with (first | (go_at_call 74; refine (l01In_any _ _ _ _).mono ?_; rintro e wS ⟨rfl, rfl⟩; rw [show decide ((0 : Int) ≤ k ∧ k ≤ 1000000000000) = false by simp; omega]))
      have lt_B0 := B0.lt
      have lt_B1 := B1.lt
      go_wp2_with (first | rw [← zero64] | (refine wpList_store_blk rfl 23 (.tmp 6) (.tmp 29) rfl _ 64 (fun _ => 0) rfl rfl 23 _ (B1) Try.size23 ?_; try simp only [Act.put]; go_wp2_with fail))
      have qB0 : Blk (W3.setRow (w.heap.size + 1) (bcells 64 (fun _ => 0))) (w.heap.size) 64 23 (f) := (B0.rowOther (by omega))
      have qB1 : Blk (W3.setRow (w.heap.size + 1) (bcells 64 (fun _ => 0))) (w.heap.size + 1) 64 23 (fun _ => 0) := (B1.row (fun _ => 0))
      have qhb : Below w.heap.size w (W3.setRow (w.heap.size + 1) (bcells 64 (fun _ => 0))) := (below_row hb (by omega) _)
      obtain ⟨W4, hwo⟩ : ∃ v : World, v = (W3.setRow (w.heap.size + 1) (bcells 64 (fun _ => 0))) := ⟨_, rfl⟩
      rw [← hwo] at qB0 qB1 qhb ⊢
      clear hwo
      clear B0 B1 hb
      have B0 := qB0
      have B1 := qB1
      have hb := qhb
      clear qB0 qB1 qhb
      try simp only [Act.put, List.setIfInBounds_toArray, List.set_cons_zero, List.set_cons_succ]
      refine bodyPost_ret (results_bt rfl _ _ _ 64 23 5 _ rfl B1 Try.underlying23 Try.size23) rfl ⟨by first | (rw [HV.out]; rfl) | rw [HV.out], hb⟩
  · have HV := Lib.hid (pqV_1 (k := k) hc)
    rw [hc]
    clear hc
    go_upto_region 3 with (fail)
    have lt_B0 := B0.lt
    have lt_B1 := B1.lt
    go_wp2_with (first | rw [← zero64] | (refine wpList_store_blk rfl 23 (.tmp 6) (.tmp 21) rfl _ 64 (fun _ => 0) rfl rfl 23 _ (B1) Try.size23 ?_; try simp only [Act.put]; go_wp2_with fail))
    have qB0 : Blk (W2.setRow (w.heap.size + 1) (bcells 64 (fun _ => 0))) (w.heap.size) 64 23 (f) := (B0.rowOther (by omega))
    have qB1 : Blk (W2.setRow (w.heap.size + 1) (bcells 64 (fun _ => 0))) (w.heap.size + 1) 64 23 (fun _ => 0) := (B1.row (fun _ => 0))
    have qhb : Below w.heap.size w (W2.setRow (w.heap.size + 1) (bcells 64 (fun _ => 0))) := (below_row hb (by omega) _)
    obtain ⟨W3, hwo⟩ : ∃ v : World, v = (W2.setRow (w.heap.size + 1) (bcells 64 (fun _ => 0))) := ⟨_, rfl⟩
    rw [← hwo] at qB0 qB1 qhb ⊢
    clear hwo
    clear B0 B1 hb
    have B0 := qB0
    have B1 := qB1
    have hb := qhb
    clear qB0 qB1 qhb
    try simp only [Act.put, List.setIfInBounds_toArray, List.set_cons_zero, List.set_cons_succ]
    refine bodyPost_ret (results_bt rfl _ _ _ 64 23 5 _ rfl B1 Try.underlying23 Try.size23) rfl ⟨by first | (rw [HV.out]; rfl) | rw [HV.out], hb⟩
end Go.Proofs.Ytbjpkmbhbpcbgaa
