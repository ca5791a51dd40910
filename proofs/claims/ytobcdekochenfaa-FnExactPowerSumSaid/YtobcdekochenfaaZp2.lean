/-
  What the rows of this claim rest on: arrays of bytes, walks of the functions, plain mathematics.
-/
import Derived.Test.YtobcdekochenfaaZp1
import Derived.Deep.CutBlock
import Derived.OpenShut
import Derived.ProofKit
import Derived.Test.YtobcdekochenfaaRows
import Derived.JoinedOf
section
namespace Go.Proofs.Ytobcdekochenfaa
open Go Go.RowKit
set_option linter.unusedVariables false
set_option linter.unusedSimpArgs false
attribute [local irreducible] deg invN dS qS stp quoP resP oneP addK pgR prd exP
set_option maxRecDepth 100000 in
set_option maxHeartbeats 1600000 in
theorem timesPow_any (p : Nat) (f g : Nat → Nat) (bp : Nat) (w : World) (p2 : 2 ≤ p) (p7 : p ≤ 7) (lf : ∀ k, k < 64 → f k < p) (lg : ∀ k, k < 64 → g k < p)
 (B0 : One w bp 2 (.int .i64 (p : Int))) :
 Calls Try.prog 139 #[.agg (zb 64 f), .agg (zb 64 g), .pointer (some ⟨bp, 0, none⟩)] w fun e w' => e = .returned (.agg (zb 64 (prd p f g))) ∧ Below w.heap.size w w' := by
 have HRP := Lib.hid (fun W => product_any p f g W p2 p7 lf lg)
 have zx_0 := B0.lt
 go_enter Try.func139, Try.ntmps139
 go_upto_region 1 with (fail)
 rw [← z64]
 obtain ⟨W1, hwo⟩ : ∃ v : World, v = (((w.alloc (.cells (zb 64 (f)) 23)).alloc (.cells (zb 64 (g)) 23)).alloc (.cells (zb 64 (fun _ => 0)) 23)) := ⟨_, rfl⟩
 have B1 : Blk W1 (w.heap.size) 64 23 (f) := by subst hwo; have := (((Blk.new w 64 23 (f)).alloc (.cells (zb 64 (g)) 23)).alloc (.cells (zb 64 (fun _ => 0)) 23)); simpa using this
 have B2 : Blk W1 (w.heap.size + 1) 64 23 (g) := by subst hwo; have := ((Blk.new (w.alloc (.cells (zb 64 (f)) 23)) 64 23 (g)).alloc (.cells (zb 64 (fun _ => 0)) 23)); simpa using this
 have B3 : Blk W1 (w.heap.size + 1 + 1) 64 23 (fun _ => 0) := by subst hwo; have := (Blk.new ((w.alloc (.cells (zb 64 (f)) 23)).alloc (.cells (zb 64 (g)) 23)) 64 23 (fun _ => 0)); simpa using this
 replace B0 : One W1 (bp) 2 (.int .i64 (p : Int)) := by subst hwo; exact (((B0.alloc (.cells (zb 64 (f)) 23)).alloc (.cells (zb 64 (g)) 23)).alloc (.cells (zb 64 (fun _ => 0)) 23))
 have hb : Below w.heap.size w W1 := by subst hwo; exact ((((Below.refl _ _).alloc (Nat.le_refl _) _).alloc (by simp) _).alloc (by simp; omega) _)
 rw [← hwo]
 clear hwo
 have lt_B0 := B0.lt
 have lt_B1 := B1.lt
 have lt_B2 := B2.lt
 have lt_B3 := B3.lt
 go_wp2_with (first | rw [← z64] | (refine zlo rfl 2 (.tmp 2) rfl _ rfl 2 ((.int .i64 (p : Int))) (B0) _ Try.underlying2 rfl ?_) | (refine zla (.tmp 3) B1 Try.underlying23 Try.size23 ?_) | (refine zla (.tmp 4) B2 Try.underlying23 Try.size23 ?_) | (go_at_call 117; refine (HRP.out _).mono ?_; rintro e W2 ⟨rfl, hW2⟩; replace B0 := B0.zw hW2; replace B1 := B1.zw hW2; replace B2 := B2.zw hW2; replace B3 := B3.zw hW2; replace hb := (hb).trans (hW2.mono (hb).size)) | (refine zsr (.tmp 5) (.tmp 9) (prd p f g) B3 Try.size23 ?_; try simp only [Act.put]))
 obtain ⟨W3, hwo, hzQ⟩ : ∃ v : World, v = (W2.setRow (w.heap.size + 1 + 1) (zb 64 (prd p f g))) ∧ One v (bp) 2 (.int .i64 (p : Int)) ∧ Blk v (w.heap.size) 64 23 (f) ∧ Blk v (w.heap.size + 1) 64 23 (g) ∧ Blk v (w.heap.size + 1 + 1) 64 23 (prd p f g) ∧ Below w.heap.size w v := ⟨_, rfl, (B0.rowOther (by omega)), (B1.rowOther (by omega)), (B2.rowOther (by omega)), (B3.row (prd p f g)), (zr hb (by omega) _)⟩
 rw [← hwo]
 clear hwo B0 B1 B2 B3 hb
 obtain ⟨B0, B1, B2, B3, hb⟩ := hzQ
 try simp only [Act.put, pA, pB, pC]
 refine bodyPost_ret (zrb rfl _ _ _ 64 23 5 _ rfl B3 Try.underlying23 Try.size23) rfl ⟨rfl, hb⟩
set_option maxRecDepth 100000 in
set_option maxHeartbeats 1600000 in
theorem powerMul (mul : (Nat → Nat) → (Nat → Nat) → (Nat → Nat)) (P : Nat → (Nat → Nat) → (Nat → Nat) → Prop) (c1 : Value) (f : Nat → Nat) (k0 : Nat) (w : World)
 (HT1 : Hid (∀ k r s W, P k r s → k % 2 = 1 → Below w.heap.size w W → Calls Try.prog 139 #[.agg (zb 64 r), .agg (zb 64 s), c1] W fun e w' => e = .returned (.agg (zb 64 (mul r s))) ∧ Below W.heap.size W w'))
 (HT2 : Hid (∀ k r s W, P k r s → 1 < k → Below w.heap.size w W → Calls Try.prog 139 #[.agg (zb 64 s), .agg (zb 64 s), c1] W fun e w' => e = .returned (.agg (zb 64 (mul s s))) ∧ Below W.heap.size W w'))
 (HS : Hid (∀ k r s, P k r s → 1 < k → P (k / 2) (if k % 2 = 1 then mul r s else r) (mul s s)))
 (HC : Hid (∀ x y, (∀ i, i < 64 → x i = y i) → mul x x = mul y y)) (HB : Hid (∀ k r s, P k r s → ∀ i, i < 64 → s i < 256)) (H0 : 0 < k0 → P k0 oneP f) (hk0 : (k0 : Int) ≤ 1000000000000) :
 Calls Try.prog 140 #[.agg (zb 64 oneP), .agg (zb 64 f), .int .i64 (k0 : Int), .func (.func 139) #[] #[c1]] w fun e w' => e = .returned (.agg (zb 64 (pgR mul 64 k0 oneP f))) ∧ Below w.heap.size w w' := by
 have hmm := @run_makeMap Try.prog
 go_enter Try.func140, Try.ntmps140
 go_upto_region 1 with (fail)
 rw [← z64]
 obtain ⟨W1, hwo⟩ : ∃ v : World, v = (((w.alloc (.cells (zb 64 (oneP)) 23)).alloc (.cells (zb 64 (f)) 23)).alloc (.cells (zb 64 (fun _ => 0)) 23)) := ⟨_, rfl⟩
 have B0 : Blk W1 (w.heap.size) 64 23 (oneP) := by subst hwo; have := (((Blk.new w 64 23 (oneP)).alloc (.cells (zb 64 (f)) 23)).alloc (.cells (zb 64 (fun _ => 0)) 23)); simpa using this
 have B1 : Blk W1 (w.heap.size + 1) 64 23 (f) := by subst hwo; have := ((Blk.new (w.alloc (.cells (zb 64 (oneP)) 23)) 64 23 (f)).alloc (.cells (zb 64 (fun _ => 0)) 23)); simpa using this
 have B2 : Blk W1 (w.heap.size + 1 + 1) 64 23 (fun _ => 0) := by subst hwo; have := (Blk.new ((w.alloc (.cells (zb 64 (oneP)) 23)).alloc (.cells (zb 64 (f)) 23)) 64 23 (fun _ => 0)); simpa using this
 have hb : Below w.heap.size w W1 := by subst hwo; exact ((((Below.refl _ _).alloc (Nat.le_refl _) _).alloc (by simp) _).alloc (by simp; omega) _)
 rw [← hwo]
 clear hwo
 go_upto_region 2 with (fail)
 have lt_B0 := B0.lt
 have lt_B1 := B1.lt
 have lt_B2 := B2.lt
 have lhb := hb.size
 obtain ⟨W2, hwo, hzQ⟩ : ∃ v : World, v = (W1.alloc (.map #[] 0)) ∧ Blk v (w.heap.size) 64 23 (oneP) ∧ Blk v (w.heap.size + 1) 64 23 (f) ∧ Blk v (w.heap.size + 1 + 1) 64 23 (fun _ => 0) ∧ MapG Try.prog 23 v (W1.heap.size) [] ∧ Below w.heap.size w v := ⟨_, rfl, (B0.alloc (.map #[] 0)), (B1.alloc (.map #[] 0)), (B2.alloc (.map #[] 0)), (MapG.new Try.prog 23 W1), (hb.alloc hb.size (.map #[] 0))⟩
 rw [← hwo]
 clear hwo B0 B1 B2 hb
 obtain ⟨B0, B1, B2, B3, hb⟩ := hzQ
 obtain ⟨N1, hNN⟩ : ∃ n : Nat, n = W1.heap.size := ⟨_, rfl⟩
 rw [← hNN] at lt_B0 lt_B1 lt_B2 lhb B3 ⊢
 clear hNN
 have zN1_0 := lt_B0
 have zN1_1 := lt_B1
 have zN1_2 := lt_B2
 have zN1 := lhb
 clear lt_B0 lt_B1 lt_B2 lhb
 try simp only [Act.put, pA, pB, pC]
 have lt_B0 := B0.lt
 have lt_B1 := B1.lt
 have lt_B2 := B2.lt
 have lt_B3 := B3.lt
 go_wp2_with (first | rw [← z64] | (refine zla (.tmp 4) B0 Try.underlying23 Try.size23 ?_) | (refine wpList_store_blk rfl 23 (.tmp 10) (.tmp 14) rfl _ 64 (oneP) rfl rfl 23 _ ((Blk.new W2 64 23 (fun _ => 0))) Try.size23 ?_; try simp only [Act.put]))
 have lt_B0 := B0.lt
 have lt_B1 := B1.lt
 have lt_B2 := B2.lt
 have lt_B3 := B3.lt
 have lhb := hb.size
 obtain ⟨W3, hwo, hzQ⟩ : ∃ v : World, v = ((W2.alloc (.cells (zb 64 (fun _ => 0)) 23)).setRow (W2.heap.size) (zb 64 (oneP))) ∧ Blk v (w.heap.size) 64 23 (oneP) ∧ Blk v (w.heap.size + 1) 64 23 (f) ∧ Blk v (w.heap.size + 1 + 1) 64 23 (fun _ => 0) ∧ MapG Try.prog 23 v (N1) [] ∧ Blk v (W2.heap.size) 64 23 (oneP) ∧ Below w.heap.size w v := ⟨_, rfl, ((B0.alloc (.cells (zb 64 (fun _ => 0)) 23)).rowOther (by omega)), ((B1.alloc (.cells (zb 64 (fun _ => 0)) 23)).rowOther (by omega)), ((B2.alloc (.cells (zb 64 (fun _ => 0)) 23)).rowOther (by omega)), ((B3.alloc (.cells (zb 64 (fun _ => 0)) 23)).rowOther (by omega)), ((Blk.new W2 64 23 (fun _ => 0)).row (oneP)), (zr (hb.alloc (by have := hb.size; simp; omega) (.cells (zb 64 (fun _ => 0)) 23)) (by omega) _)⟩
 rw [← hwo]
 clear hwo B0 B1 B2 B3 hb
 obtain ⟨B0, B1, B2, B3, B4, hb⟩ := hzQ
 obtain ⟨N2, hNN⟩ : ∃ n : Nat, n = W2.heap.size := ⟨_, rfl⟩
 rw [← hNN] at lt_B0 lt_B1 lt_B2 lt_B3 lhb B4 ⊢
 clear hNN
 have zN2_0 := lt_B0
 have zN2_1 := lt_B1
 have zN2_2 := lt_B2
 have zN2_3 := lt_B3
 have zN2 := lhb
 clear lt_B0 lt_B1 lt_B2 lt_B3 lhb
 try simp only [Act.put, pA, pB, pC]
 clear B0
 go_loopw [2] (fun i wr => ∃ (q k : Nat) (po ps : Nat → Nat) (L : List (Value × Value)), Hid (pgR mul 64 k0 oneP f = pgR mul q k po ps) ∧ k < 2 ^ q ∧ (k : Int) ≤ 1000000000000 ∧ Hid (0 < k → P k po ps) ∧ Hid (∀ q ∈ L, ∃ x, q.1 = .agg (zb 64 x) ∧ q.2 = .agg (zb 64 (mul x x))) ∧ i = .int .i64 (k : Int) ∧ Below w.heap.size w wr ∧ Blk wr (w.heap.size + 1) 64 23 ps ∧ Blk wr (w.heap.size + 1 + 1) 64 23 (fun _ => 0) ∧ MapG Try.prog 23 wr (N1) L ∧ Blk wr (N2) 64 23 po) (fun i _ => (intOf i).toNat)
 case atStart => exact ⟨64, k0, _, _, [], Lib.hid rfl, (by have h6 : (1000000000000 : Nat) < 2 ^ 64 := (by decide); omega), hk0, Lib.hid H0, Lib.hid (by simp), rfl, hb, B1, B2, B3, B4⟩
 case round =>
  clear hb B1 B2 B3 B4 H0
  obtain ⟨q, k, po, ps, L, hP, hkq, hk, hI, hL, rfl, hb, B1, B2, B3, B4⟩ := hrel
  have HKQ := Lib.hid hkq
  clear hkq hk0 hmm
  by_cases hz : k = 0
  · subst hz
    have HV := Lib.hid (hP.out.trans pgR_z)
    go_upto_region 13 with (fail)
    have lt_B1 := B1.lt
    have lt_B2 := B2.lt
    have lt_B3 := B3.lt
    have lt_B4 := B4.lt
    go_wp2_with (first | rw [← z64] | (refine zla (.tmp 10) B4 Try.underlying23 Try.size23 ?_) | (refine zsr (.tmp 8) (.tmp 44) (po) B2 Try.size23 ?_; try simp only [Act.put]))
    obtain ⟨W4, hwo, hzQ⟩ : ∃ v : World, v = (wr.setRow (w.heap.size + 1 + 1) (zb 64 (po))) ∧ Blk v (w.heap.size + 1) 64 23 (ps) ∧ Blk v (w.heap.size + 1 + 1) 64 23 (po) ∧ MapG Try.prog 23 v (N1) L ∧ Blk v (N2) 64 23 (po) ∧ Below w.heap.size w v := ⟨_, rfl, (B1.rowOther (by omega)), (B2.row (po)), (B3.rowOther (by omega)), (B4.rowOther (by omega)), (zr hb (by omega) _)⟩
    rw [← hwo]
    clear hwo B1 B2 B3 B4 hb
    obtain ⟨B1, B2, B3, B4, hb⟩ := hzQ
    try simp only [Act.put, pA, pB, pC]
    refine bodyPost_ret (zrb rfl _ _ _ 64 23 5 _ rfl B2 Try.underlying23 Try.size23) rfl ⟨by rw [HV.out], hb⟩
  · obtain ⟨q, rfl⟩ : ∃ t, q = t + 1 := ⟨q - 1, by have h1 := HKQ.out; have h2 : q ≠ 0 := (by intro h; rw [h, Nat.pow_zero] at h1; omega); omega⟩
    have hpos : (0 : Int) < (k : Int) := by omega
    have HP := Lib.hid (hI.out (by omega))
    clear hI
    by_cases hodd : k % 2 = 1
    · have hb1 : (((k : Int) % 2) == 1) = true := beq_iff_eq.2 (by omega)
      have hb2 : (((k : Int).tmod 2) == 1) = true := by rw [Int.tmod_eq_emod_of_nonneg (by omega)]; exact hb1
      have HO := Lib.hid hodd
      have HV := Lib.hid (hP.out.trans (pgR_odd hz hodd))
      have HD := Lib.hid (show k / 2 < 2 ^ q by have := HKQ.out; rw [Nat.pow_succ] at this; omega)
      clear hodd hz hP
      go_upto_region 5 with (fail)
      clear hb1 hb2
      have lt_B1 := B1.lt
      have lt_B2 := B2.lt
      have lt_B3 := B3.lt
      have lt_B4 := B4.lt
      go_upto_region 6 with (first | rw [← z64] | (refine zla (.tmp 10) B4 Try.underlying23 Try.size23 ?_) | (refine zla (.tmp 5) B1 Try.underlying23 Try.size23 ?_) | (go_at_call 139; refine (HT1.out k po ps _ HP.out HO.out hb).mono ?_; rintro e W4 ⟨rfl, hW4⟩; replace B1 := B1.zw hW4; replace B2 := B2.zw hW4; replace B3 := B3.zw hW4; replace B4 := B4.zw hW4; replace hb := (hb).trans (hW4.mono (hb).size)) | (refine zsr (.tmp 10) (.tmp 23) (mul po ps) B4 Try.size23 ?_; try simp only [Act.put]))
      obtain ⟨W5, hwo, hzQ⟩ : ∃ v : World, v = (W4.setRow (N2) (zb 64 (mul po ps))) ∧ Blk v (w.heap.size + 1) 64 23 (ps) ∧ Blk v (w.heap.size + 1 + 1) 64 23 (fun _ => 0) ∧ MapG Try.prog 23 v (N1) L ∧ Blk v (N2) 64 23 (mul po ps) ∧ Below w.heap.size w v := ⟨_, rfl, (B1.rowOther (by omega)), (B2.rowOther (by omega)), (B3.rowOther (by omega)), (B4.row (mul po ps)), (zr hb (by omega) _)⟩
      rw [← hwo]
      clear hwo B1 B2 B3 B4 hb
      obtain ⟨B1, B2, B3, B4, hb⟩ := hzQ
      try simp only [Act.put, pA, pB, pC]
      by_cases h1 : 1 < k
      · have hq : 1 ≤ (k : Int) / 2 := by omega
        have hq2 : 0 < (k : Int) / 2 := by omega
        have HS2 := Lib.hid (HS.out k po ps HP.out h1)
        have HT := Lib.hid (fun W => HT2.out k po ps W HP.out h1)
        obtain ⟨kl, hkl⟩ := Try.keyOfPoly (HB.out k po ps HP.out)
        have HKL := Lib.hid hkl
        have hlk := B3.look Try.keyPoly Try.underlying187 (Try.zeroPoly _) true hkl
        clear hkl h1
        go_upto_region 8 with (fail)
        clear hq2
        rcases hlk with ⟨hrun, hno⟩ | ⟨v, hin, hrun⟩
        · simp only [if_true] at hrun
          have lt_B1 := B1.lt
          have lt_B2 := B2.lt
          have lt_B3 := B3.lt
          have lt_B4 := B4.lt
          go_upto_region 10 with (first | rw [← z64] | (refine zla (.tmp 5) B1 Try.underlying23 Try.size23 ?_) | (at_lookup; refine wpList_look _ rfl _ _ 187 true rfl _ rfl _ rfl (.tuple #[.agg (zb 64 fun _ => 0), .bool false]) hrun ?_) | (refine wpList_store_blk rfl 23 (.tmp 11) (.tmp 32) rfl _ 64 (fun _ => 0) rfl rfl 23 _ ((Blk.new W5 64 23 (fun _ => 0))) Try.size23 ?_; try simp only [Act.put]; go_upto_region 10 with (fail)))
          have lt_B1 := B1.lt
          have lt_B2 := B2.lt
          have lt_B3 := B3.lt
          have lt_B4 := B4.lt
          have lhb := hb.size
          obtain ⟨W6, hwo, hzQ⟩ : ∃ v : World, v = ((W5.alloc (.cells (zb 64 (fun _ => 0)) 23)).setRow (W5.heap.size) (zb 64 (fun _ => 0))) ∧ Blk v (w.heap.size + 1) 64 23 (ps) ∧ Blk v (w.heap.size + 1 + 1) 64 23 (fun _ => 0) ∧ MapG Try.prog 23 v (N1) L ∧ Blk v (N2) 64 23 (mul po ps) ∧ Blk v (W5.heap.size) 64 23 (fun _ => 0) ∧ Below w.heap.size w v := ⟨_, rfl, ((B1.alloc (.cells (zb 64 (fun _ => 0)) 23)).rowOther (by omega)), ((B2.alloc (.cells (zb 64 (fun _ => 0)) 23)).rowOther (by omega)), ((B3.alloc (.cells (zb 64 (fun _ => 0)) 23)).rowOther (by omega)), ((B4.alloc (.cells (zb 64 (fun _ => 0)) 23)).rowOther (by omega)), ((Blk.new W5 64 23 (fun _ => 0)).row (fun _ => 0)), (zr (hb.alloc (by have := hb.size; simp; omega) (.cells (zb 64 (fun _ => 0)) 23)) (by omega) _)⟩
          rw [← hwo]
          clear hwo B1 B2 B3 B4 hb
          obtain ⟨B1, B2, B3, B4, B5, hb⟩ := hzQ
          obtain ⟨N3, hNN⟩ : ∃ n : Nat, n = W5.heap.size := ⟨_, rfl⟩
          rw [← hNN] at lt_B1 lt_B2 lt_B3 lt_B4 lhb B5 ⊢
          clear hNN
          have zN3_1 := lt_B1
          have zN3_2 := lt_B2
          have zN3_3 := lt_B3
          have zN3_4 := lt_B4
          have zN3 := lhb
          clear lt_B1 lt_B2 lt_B3 lt_B4 lhb
          try simp only [Act.put, pA, pB, pC]
          clear hrun
          have lt_B1 := B1.lt
          have lt_B2 := B2.lt
          have lt_B3 := B3.lt
          have lt_B4 := B4.lt
          have lt_B5 := B5.lt
          go_upto_region 11 with (first | rw [← z64] | (refine zla (.tmp 5) B1 Try.underlying23 Try.size23 ?_) | (refine zla (.tmp 5) B1 Try.underlying23 Try.size23 ?_) | (go_at_call 139; refine (HT.out _ hb).mono ?_; rintro e W7 ⟨rfl, hW7⟩; replace B1 := B1.zw hW7; replace B2 := B2.zw hW7; replace B3 := B3.zw hW7; replace B4 := B4.zw hW7; replace B5 := B5.zw hW7; replace hb := (hb).trans (hW7.mono (hb).size)) | (refine zsr (.tmp 11) (.tmp 39) (mul ps ps) B5 Try.size23 ?_; try simp only [Act.put]))
          obtain ⟨W8, hwo, hzQ⟩ : ∃ v : World, v = (W7.setRow (N3) (zb 64 (mul ps ps))) ∧ Blk v (w.heap.size + 1) 64 23 (ps) ∧ Blk v (w.heap.size + 1 + 1) 64 23 (fun _ => 0) ∧ MapG Try.prog 23 v (N1) L ∧ Blk v (N2) 64 23 (mul po ps) ∧ Blk v (N3) 64 23 (mul ps ps) ∧ Below w.heap.size w v := ⟨_, rfl, (B1.rowOther (by omega)), (B2.rowOther (by omega)), (B3.rowOther (by omega)), (B4.rowOther (by omega)), (B5.row (mul ps ps)), (zr hb (by omega) _)⟩
          rw [← hwo]
          clear hwo B1 B2 B3 B4 B5 hb
          obtain ⟨B1, B2, B3, B4, B5, hb⟩ := hzQ
          try simp only [Act.put, pA, pB, pC]
          obtain ⟨wM, hput, hmn, hgr⟩ := B3.put (val := .agg (zb 64 (mul ps ps))) Try.keyPoly Try.underlying187 HKL.out hno
          have gB1 : Blk wM (w.heap.size + 1) 64 23 (ps) := B1.grown hgr (by omega)
          have gB2 : Blk wM (w.heap.size + 1 + 1) 64 23 (fun _ => 0) := B2.grown hgr (by omega)
          have gB4 : Blk wM (N2) 64 23 (mul po ps) := B4.grown hgr (by omega)
          have gB5 : Blk wM (N3) 64 23 (mul ps ps) := B5.grown hgr (by omega)
          have ghb : Below w.heap.size w wM := hb.grown hgr hb.size (fun j e => by cases e; omega)
          go_upto_region 12 with (first | (refine zla (.tmp 5) B1 Try.underlying23 Try.size23 ?_) | (refine zla (.tmp 11) B5 Try.underlying23 Try.size23 ?_) | (at_mapUpdate; refine wpList_put _ rfl _ _ _ 187 rfl _ rfl _ rfl _ rfl wM hput ?_; go_upto_region 12 with (fail)))
          clear B1 B2 B3 B4 B5 hb hput hgr hno
          have B1 := gB1
          clear gB1
          have B2 := gB2
          clear gB2
          have B3 := hmn
          clear hmn
          have B4 := gB4
          clear gB4
          have B5 := gB5
          clear gB5
          have hb := ghb
          clear ghb
          have lt_B1 := B1.lt
          have lt_B2 := B2.lt
          have lt_B3 := B3.lt
          have lt_B4 := B4.lt
          have lt_B5 := B5.lt
          go_wp2_with (first | rw [← z64] | (refine zla (.tmp 11) B5 Try.underlying23 Try.size23 ?_) | (refine zsr (.tmp 5) (.tmp 43) (mul ps ps) B1 Try.size23 ?_; try simp only [Act.put]))
          obtain ⟨W9, hwo, hzQ⟩ : ∃ v : World, v = (wM.setRow (w.heap.size + 1) (zb 64 (mul ps ps))) ∧ Blk v (w.heap.size + 1) 64 23 (mul ps ps) ∧ Blk v (w.heap.size + 1 + 1) 64 23 (fun _ => 0) ∧ MapG Try.prog 23 v (N1) (L ++ [(.agg (zb 64 ps), .agg (zb 64 (mul ps ps)))]) ∧ Blk v (N2) 64 23 (mul po ps) ∧ Blk v (N3) 64 23 (mul ps ps) ∧ Below w.heap.size w v := ⟨_, rfl, (B1.row (mul ps ps)), (B2.rowOther (by omega)), (B3.rowOther (by omega)), (B4.rowOther (by omega)), (B5.rowOther (by omega)), (zr hb (by omega) _)⟩
          rw [← hwo]
          clear hwo B1 B2 B3 B4 B5 hb
          obtain ⟨B1, B2, B3, B4, B5, hb⟩ := hzQ
          try simp only [Act.put, pA, pB, pC]
          go_roundw
          case rel => exact ⟨q, k / 2, mul po ps, mul ps ps, L ++ [(.agg (zb 64 ps), .agg (zb 64 (mul ps ps)))], HV, HD.out, by omega, Lib.hid (fun _ => by have := HS2.out; rw [if_pos HO.out] at this; exact this), Lib.hid (by intro q hq; rcases List.mem_append.1 hq with h | h; exact hL.out q h; rw [List.mem_singleton] at h; subst h; exact ⟨ps, rfl, rfl⟩), by rw [show ((k / 2 : Nat) : Int) = (k : Int) / 2 by push_cast; rfl], hb, B1, B2, B3, B4⟩
          case measure => simp [intOf] <;> omega
        · simp only [if_true] at hrun
          obtain rfl : v = .agg (zb 64 (mul ps ps)) := by
           obtain ⟨x, e1, e2⟩ := hL.out _ hin
           have e3 : (Value.agg (zb 64 ps)) = .agg (zb 64 x) := e1
           have e4 : zb 64 ps = zb 64 x := by injection e3
           have e5 : v = .agg (zb 64 (mul x x)) := e2
           rw [e5, HC.out x ps (fun i hi => (bcells_inj e4 i hi).symm)]
          clear hin
          have lt_B1 := B1.lt
          have lt_B2 := B2.lt
          have lt_B3 := B3.lt
          have lt_B4 := B4.lt
          go_upto_region 12 with (first | rw [← z64] | (refine zla (.tmp 5) B1 Try.underlying23 Try.size23 ?_) | (at_lookup; refine wpList_look _ rfl _ _ 187 true rfl _ rfl _ rfl (.tuple #[.agg (zb 64 (mul ps ps)), .bool true]) hrun ?_) | (refine wpList_store_blk rfl 23 (.tmp 11) (.tmp 32) rfl _ 64 (mul ps ps) rfl rfl 23 _ ((Blk.new W5 64 23 (fun _ => 0))) Try.size23 ?_; try simp only [Act.put]; go_upto_region 12 with (fail)))
          have lt_B1 := B1.lt
          have lt_B2 := B2.lt
          have lt_B3 := B3.lt
          have lt_B4 := B4.lt
          have lhb := hb.size
          obtain ⟨W6, hwo, hzQ⟩ : ∃ v : World, v = ((W5.alloc (.cells (zb 64 (fun _ => 0)) 23)).setRow (W5.heap.size) (zb 64 (mul ps ps))) ∧ Blk v (w.heap.size + 1) 64 23 (ps) ∧ Blk v (w.heap.size + 1 + 1) 64 23 (fun _ => 0) ∧ MapG Try.prog 23 v (N1) L ∧ Blk v (N2) 64 23 (mul po ps) ∧ Blk v (W5.heap.size) 64 23 (mul ps ps) ∧ Below w.heap.size w v := ⟨_, rfl, ((B1.alloc (.cells (zb 64 (fun _ => 0)) 23)).rowOther (by omega)), ((B2.alloc (.cells (zb 64 (fun _ => 0)) 23)).rowOther (by omega)), ((B3.alloc (.cells (zb 64 (fun _ => 0)) 23)).rowOther (by omega)), ((B4.alloc (.cells (zb 64 (fun _ => 0)) 23)).rowOther (by omega)), ((Blk.new W5 64 23 (fun _ => 0)).row (mul ps ps)), (zr (hb.alloc (by have := hb.size; simp; omega) (.cells (zb 64 (fun _ => 0)) 23)) (by omega) _)⟩
          rw [← hwo]
          clear hwo B1 B2 B3 B4 hb
          obtain ⟨B1, B2, B3, B4, B5, hb⟩ := hzQ
          obtain ⟨N3, hNN⟩ : ∃ n : Nat, n = W5.heap.size := ⟨_, rfl⟩
          rw [← hNN] at lt_B1 lt_B2 lt_B3 lt_B4 lhb B5 ⊢
          clear hNN
          have zN3_1 := lt_B1
          have zN3_2 := lt_B2
          have zN3_3 := lt_B3
          have zN3_4 := lt_B4
          have zN3 := lhb
          clear lt_B1 lt_B2 lt_B3 lt_B4 lhb
          try simp only [Act.put, pA, pB, pC]
          clear hrun
          have lt_B1 := B1.lt
          have lt_B2 := B2.lt
          have lt_B3 := B3.lt
          have lt_B4 := B4.lt
          have lt_B5 := B5.lt
          go_wp2_with (first | rw [← z64] | (refine zla (.tmp 11) B5 Try.underlying23 Try.size23 ?_) | (refine zsr (.tmp 5) (.tmp 43) (mul ps ps) B1 Try.size23 ?_; try simp only [Act.put]))
          obtain ⟨W7, hwo, hzQ⟩ : ∃ v : World, v = (W6.setRow (w.heap.size + 1) (zb 64 (mul ps ps))) ∧ Blk v (w.heap.size + 1) 64 23 (mul ps ps) ∧ Blk v (w.heap.size + 1 + 1) 64 23 (fun _ => 0) ∧ MapG Try.prog 23 v (N1) L ∧ Blk v (N2) 64 23 (mul po ps) ∧ Blk v (N3) 64 23 (mul ps ps) ∧ Below w.heap.size w v := ⟨_, rfl, (B1.row (mul ps ps)), (B2.rowOther (by omega)), (B3.rowOther (by omega)), (B4.rowOther (by omega)), (B5.rowOther (by omega)), (zr hb (by omega) _)⟩
          rw [← hwo]
          clear hwo B1 B2 B3 B4 B5 hb
          obtain ⟨B1, B2, B3, B4, B5, hb⟩ := hzQ
          try simp only [Act.put, pA, pB, pC]
          go_roundw
          case rel => exact ⟨q, k / 2, mul po ps, mul ps ps, L, HV, HD.out, by omega, Lib.hid (fun _ => by have := HS2.out; rw [if_pos HO.out] at this; exact this), hL, by rw [show ((k / 2 : Nat) : Int) = (k : Int) / 2 by push_cast; rfl], hb, B1, B2, B3, B4⟩
          case measure => simp [intOf] <;> omega
      · have hq : (k : Int) / 2 = 0 := by omega
        have hq2 : ((k : Int).tdiv 2) = 0 := by rw [Int.tdiv_eq_ediv_of_nonneg (by omega)]; exact hq
        have HE := Lib.hid (show k / 2 = 0 by omega)
        clear h1
        go_wp2_with fail
        go_roundw
        case rel => exact ⟨q, 0, mul po ps, ps, L, Lib.hid (HV.out.trans (by rw [HE.out, pgR_z, pgR_z])), Nat.pow_pos (by omega), by omega, Lib.hid (fun h => absurd h (by omega)), hL, by simp, hb, B1, B2, B3, B4⟩
        case measure => simp [intOf] <;> omega
    · have hb1 : (((k : Int) % 2) == 1) = false := beq_eq_false_iff_ne.2 (by omega)
      have hb2 : (((k : Int).tmod 2) == 1) = false := by rw [Int.tmod_eq_emod_of_nonneg (by omega)]; exact hb1
      have HO := Lib.hid hodd
      have HV := Lib.hid (hP.out.trans (pgR_even hz hodd))
      have HD := Lib.hid (show k / 2 < 2 ^ q by have := HKQ.out; rw [Nat.pow_succ] at this; omega)
      clear hodd hz hP
      go_upto_region 6 with (fail)
      clear hb1 hb2
      by_cases h1 : 1 < k
      · have hq : 1 ≤ (k : Int) / 2 := by omega
        have hq2 : 0 < (k : Int) / 2 := by omega
        have HS2 := Lib.hid (HS.out k po ps HP.out h1)
        have HT := Lib.hid (fun W => HT2.out k po ps W HP.out h1)
        obtain ⟨kl, hkl⟩ := Try.keyOfPoly (HB.out k po ps HP.out)
        have HKL := Lib.hid hkl
        have hlk := B3.look Try.keyPoly Try.underlying187 (Try.zeroPoly _) true hkl
        clear hkl h1
        go_upto_region 8 with (fail)
        clear hq2
        rcases hlk with ⟨hrun, hno⟩ | ⟨v, hin, hrun⟩
        · simp only [if_true] at hrun
          have lt_B1 := B1.lt
          have lt_B2 := B2.lt
          have lt_B3 := B3.lt
          have lt_B4 := B4.lt
          go_upto_region 10 with (first | rw [← z64] | (refine zla (.tmp 5) B1 Try.underlying23 Try.size23 ?_) | (at_lookup; refine wpList_look _ rfl _ _ 187 true rfl _ rfl _ rfl (.tuple #[.agg (zb 64 fun _ => 0), .bool false]) hrun ?_) | (refine wpList_store_blk rfl 23 (.tmp 11) (.tmp 32) rfl _ 64 (fun _ => 0) rfl rfl 23 _ ((Blk.new wr 64 23 (fun _ => 0))) Try.size23 ?_; try simp only [Act.put]; go_upto_region 10 with (fail)))
          have lt_B1 := B1.lt
          have lt_B2 := B2.lt
          have lt_B3 := B3.lt
          have lt_B4 := B4.lt
          have lhb := hb.size
          obtain ⟨W4, hwo, hzQ⟩ : ∃ v : World, v = ((wr.alloc (.cells (zb 64 (fun _ => 0)) 23)).setRow (wr.heap.size) (zb 64 (fun _ => 0))) ∧ Blk v (w.heap.size + 1) 64 23 (ps) ∧ Blk v (w.heap.size + 1 + 1) 64 23 (fun _ => 0) ∧ MapG Try.prog 23 v (N1) L ∧ Blk v (N2) 64 23 (po) ∧ Blk v (wr.heap.size) 64 23 (fun _ => 0) ∧ Below w.heap.size w v := ⟨_, rfl, ((B1.alloc (.cells (zb 64 (fun _ => 0)) 23)).rowOther (by omega)), ((B2.alloc (.cells (zb 64 (fun _ => 0)) 23)).rowOther (by omega)), ((B3.alloc (.cells (zb 64 (fun _ => 0)) 23)).rowOther (by omega)), ((B4.alloc (.cells (zb 64 (fun _ => 0)) 23)).rowOther (by omega)), ((Blk.new wr 64 23 (fun _ => 0)).row (fun _ => 0)), (zr (hb.alloc (by have := hb.size; simp; omega) (.cells (zb 64 (fun _ => 0)) 23)) (by omega) _)⟩
          rw [← hwo]
          clear hwo B1 B2 B3 B4 hb
          obtain ⟨B1, B2, B3, B4, B5, hb⟩ := hzQ
          obtain ⟨N3, hNN⟩ : ∃ n : Nat, n = wr.heap.size := ⟨_, rfl⟩
          rw [← hNN] at lt_B1 lt_B2 lt_B3 lt_B4 lhb B5 ⊢
          clear hNN
          have zN3_1 := lt_B1
          have zN3_2 := lt_B2
          have zN3_3 := lt_B3
          have zN3_4 := lt_B4
          have zN3 := lhb
          clear lt_B1 lt_B2 lt_B3 lt_B4 lhb
          try simp only [Act.put, pA, pB, pC]
          clear hrun
          have lt_B1 := B1.lt
          have lt_B2 := B2.lt
          have lt_B3 := B3.lt
          have lt_B4 := B4.lt
          have lt_B5 := B5.lt
          go_upto_region 11 with (first | rw [← z64] | (refine zla (.tmp 5) B1 Try.underlying23 Try.size23 ?_) | (refine zla (.tmp 5) B1 Try.underlying23 Try.size23 ?_) | (go_at_call 139; refine (HT.out _ hb).mono ?_; rintro e W5 ⟨rfl, hW5⟩; replace B1 := B1.zw hW5; replace B2 := B2.zw hW5; replace B3 := B3.zw hW5; replace B4 := B4.zw hW5; replace B5 := B5.zw hW5; replace hb := (hb).trans (hW5.mono (hb).size)) | (refine zsr (.tmp 11) (.tmp 39) (mul ps ps) B5 Try.size23 ?_; try simp only [Act.put]))
          obtain ⟨W6, hwo, hzQ⟩ : ∃ v : World, v = (W5.setRow (N3) (zb 64 (mul ps ps))) ∧ Blk v (w.heap.size + 1) 64 23 (ps) ∧ Blk v (w.heap.size + 1 + 1) 64 23 (fun _ => 0) ∧ MapG Try.prog 23 v (N1) L ∧ Blk v (N2) 64 23 (po) ∧ Blk v (N3) 64 23 (mul ps ps) ∧ Below w.heap.size w v := ⟨_, rfl, (B1.rowOther (by omega)), (B2.rowOther (by omega)), (B3.rowOther (by omega)), (B4.rowOther (by omega)), (B5.row (mul ps ps)), (zr hb (by omega) _)⟩
          rw [← hwo]
          clear hwo B1 B2 B3 B4 B5 hb
          obtain ⟨B1, B2, B3, B4, B5, hb⟩ := hzQ
          try simp only [Act.put, pA, pB, pC]
          obtain ⟨wM, hput, hmn, hgr⟩ := B3.put (val := .agg (zb 64 (mul ps ps))) Try.keyPoly Try.underlying187 HKL.out hno
          have gB1 : Blk wM (w.heap.size + 1) 64 23 (ps) := B1.grown hgr (by omega)
          have gB2 : Blk wM (w.heap.size + 1 + 1) 64 23 (fun _ => 0) := B2.grown hgr (by omega)
          have gB4 : Blk wM (N2) 64 23 (po) := B4.grown hgr (by omega)
          have gB5 : Blk wM (N3) 64 23 (mul ps ps) := B5.grown hgr (by omega)
          have ghb : Below w.heap.size w wM := hb.grown hgr hb.size (fun j e => by cases e; omega)
          go_upto_region 12 with (first | (refine zla (.tmp 5) B1 Try.underlying23 Try.size23 ?_) | (refine zla (.tmp 11) B5 Try.underlying23 Try.size23 ?_) | (at_mapUpdate; refine wpList_put _ rfl _ _ _ 187 rfl _ rfl _ rfl _ rfl wM hput ?_; go_upto_region 12 with (fail)))
          clear B1 B2 B3 B4 B5 hb hput hgr hno
          have B1 := gB1
          clear gB1
          have B2 := gB2
          clear gB2
          have B3 := hmn
          clear hmn
          have B4 := gB4
          clear gB4
          have B5 := gB5
          clear gB5
          have hb := ghb
          clear ghb
          have lt_B1 := B1.lt
          have lt_B2 := B2.lt
          have lt_B3 := B3.lt
          have lt_B4 := B4.lt
          have lt_B5 := B5.lt
          go_wp2_with (first | rw [← z64] | (refine zla (.tmp 11) B5 Try.underlying23 Try.size23 ?_) | (refine zsr (.tmp 5) (.tmp 43) (mul ps ps) B1 Try.size23 ?_; try simp only [Act.put]))
          obtain ⟨W7, hwo, hzQ⟩ : ∃ v : World, v = (wM.setRow (w.heap.size + 1) (zb 64 (mul ps ps))) ∧ Blk v (w.heap.size + 1) 64 23 (mul ps ps) ∧ Blk v (w.heap.size + 1 + 1) 64 23 (fun _ => 0) ∧ MapG Try.prog 23 v (N1) (L ++ [(.agg (zb 64 ps), .agg (zb 64 (mul ps ps)))]) ∧ Blk v (N2) 64 23 (po) ∧ Blk v (N3) 64 23 (mul ps ps) ∧ Below w.heap.size w v := ⟨_, rfl, (B1.row (mul ps ps)), (B2.rowOther (by omega)), (B3.rowOther (by omega)), (B4.rowOther (by omega)), (B5.rowOther (by omega)), (zr hb (by omega) _)⟩
          rw [← hwo]
          clear hwo B1 B2 B3 B4 B5 hb
          obtain ⟨B1, B2, B3, B4, B5, hb⟩ := hzQ
          try simp only [Act.put, pA, pB, pC]
          go_roundw
          case rel => exact ⟨q, k / 2, po, mul ps ps, L ++ [(.agg (zb 64 ps), .agg (zb 64 (mul ps ps)))], HV, HD.out, by omega, Lib.hid (fun _ => by have := HS2.out; rw [if_neg HO.out] at this; exact this), Lib.hid (by intro q hq; rcases List.mem_append.1 hq with h | h; exact hL.out q h; rw [List.mem_singleton] at h; subst h; exact ⟨ps, rfl, rfl⟩), by rw [show ((k / 2 : Nat) : Int) = (k : Int) / 2 by push_cast; rfl], hb, B1, B2, B3, B4⟩
          case measure => simp [intOf] <;> omega
        · simp only [if_true] at hrun
          obtain rfl : v = .agg (zb 64 (mul ps ps)) := by
           obtain ⟨x, e1, e2⟩ := hL.out _ hin
           have e3 : (Value.agg (zb 64 ps)) = .agg (zb 64 x) := e1
           have e4 : zb 64 ps = zb 64 x := by injection e3
           have e5 : v = .agg (zb 64 (mul x x)) := e2
           rw [e5, HC.out x ps (fun i hi => (bcells_inj e4 i hi).symm)]
          clear hin
          have lt_B1 := B1.lt
          have lt_B2 := B2.lt
          have lt_B3 := B3.lt
          have lt_B4 := B4.lt
          go_upto_region 12 with (first | rw [← z64] | (refine zla (.tmp 5) B1 Try.underlying23 Try.size23 ?_) | (at_lookup; refine wpList_look _ rfl _ _ 187 true rfl _ rfl _ rfl (.tuple #[.agg (zb 64 (mul ps ps)), .bool true]) hrun ?_) | (refine wpList_store_blk rfl 23 (.tmp 11) (.tmp 32) rfl _ 64 (mul ps ps) rfl rfl 23 _ ((Blk.new wr 64 23 (fun _ => 0))) Try.size23 ?_; try simp only [Act.put]; go_upto_region 12 with (fail)))
          have lt_B1 := B1.lt
          have lt_B2 := B2.lt
          have lt_B3 := B3.lt
          have lt_B4 := B4.lt
          have lhb := hb.size
          obtain ⟨W4, hwo, hzQ⟩ : ∃ v : World, v = ((wr.alloc (.cells (zb 64 (fun _ => 0)) 23)).setRow (wr.heap.size) (zb 64 (mul ps ps))) ∧ Blk v (w.heap.size + 1) 64 23 (ps) ∧ Blk v (w.heap.size + 1 + 1) 64 23 (fun _ => 0) ∧ MapG Try.prog 23 v (N1) L ∧ Blk v (N2) 64 23 (po) ∧ Blk v (wr.heap.size) 64 23 (mul ps ps) ∧ Below w.heap.size w v := ⟨_, rfl, ((B1.alloc (.cells (zb 64 (fun _ => 0)) 23)).rowOther (by omega)), ((B2.alloc (.cells (zb 64 (fun _ => 0)) 23)).rowOther (by omega)), ((B3.alloc (.cells (zb 64 (fun _ => 0)) 23)).rowOther (by omega)), ((B4.alloc (.cells (zb 64 (fun _ => 0)) 23)).rowOther (by omega)), ((Blk.new wr 64 23 (fun _ => 0)).row (mul ps ps)), (zr (hb.alloc (by have := hb.size; simp; omega) (.cells (zb 64 (fun _ => 0)) 23)) (by omega) _)⟩
          rw [← hwo]
          clear hwo B1 B2 B3 B4 hb
          obtain ⟨B1, B2, B3, B4, B5, hb⟩ := hzQ
          obtain ⟨N3, hNN⟩ : ∃ n : Nat, n = wr.heap.size := ⟨_, rfl⟩
          rw [← hNN] at lt_B1 lt_B2 lt_B3 lt_B4 lhb B5 ⊢
          clear hNN
          have zN3_1 := lt_B1
          have zN3_2 := lt_B2
          have zN3_3 := lt_B3
          have zN3_4 := lt_B4
          have zN3 := lhb
          clear lt_B1 lt_B2 lt_B3 lt_B4 lhb
          try simp only [Act.put, pA, pB, pC]
          clear hrun
          have lt_B1 := B1.lt
          have lt_B2 := B2.lt
          have lt_B3 := B3.lt
          have lt_B4 := B4.lt
          have lt_B5 := B5.lt
          go_wp2_with (first | rw [← z64] | (refine zla (.tmp 11) B5 Try.underlying23 Try.size23 ?_) | (refine zsr (.tmp 5) (.tmp 43) (mul ps ps) B1 Try.size23 ?_; try simp only [Act.put]))
          obtain ⟨W5, hwo, hzQ⟩ : ∃ v : World, v = (W4.setRow (w.heap.size + 1) (zb 64 (mul ps ps))) ∧ Blk v (w.heap.size + 1) 64 23 (mul ps ps) ∧ Blk v (w.heap.size + 1 + 1) 64 23 (fun _ => 0) ∧ MapG Try.prog 23 v (N1) L ∧ Blk v (N2) 64 23 (po) ∧ Blk v (N3) 64 23 (mul ps ps) ∧ Below w.heap.size w v := ⟨_, rfl, (B1.row (mul ps ps)), (B2.rowOther (by omega)), (B3.rowOther (by omega)), (B4.rowOther (by omega)), (B5.rowOther (by omega)), (zr hb (by omega) _)⟩
          rw [← hwo]
          clear hwo B1 B2 B3 B4 B5 hb
          obtain ⟨B1, B2, B3, B4, B5, hb⟩ := hzQ
          try simp only [Act.put, pA, pB, pC]
          go_roundw
          case rel => exact ⟨q, k / 2, po, mul ps ps, L, HV, HD.out, by omega, Lib.hid (fun _ => by have := HS2.out; rw [if_neg HO.out] at this; exact this), hL, by rw [show ((k / 2 : Nat) : Int) = (k : Int) / 2 by push_cast; rfl], hb, B1, B2, B3, B4⟩
          case measure => simp [intOf] <;> omega
      · have hq : (k : Int) / 2 = 0 := by omega
        have hq2 : ((k : Int).tdiv 2) = 0 := by rw [Int.tdiv_eq_ediv_of_nonneg (by omega)]; exact hq
        have HE := Lib.hid (show k / 2 = 0 by omega)
        clear h1
        go_wp2_with fail
        go_roundw
        case rel => exact ⟨q, 0, po, ps, L, Lib.hid (HV.out.trans (by rw [HE.out, pgR_z, pgR_z])), Nat.pow_pos (by omega), by omega, Lib.hid (fun h => absurd h (by omega)), hL, by simp, hb, B1, B2, B3, B4⟩
        case measure => simp [intOf] <;> omega
theorem powMul_any (p : Nat) (f : Nat → Nat) (k0 : Nat) (bp : Nat) (w : World) (p2 : 2 ≤ p) (p7 : p ≤ 7) (lf : ∀ k, k < 64 → f k < p) (hk0 : (k0 : Int) ≤ 1000000000000)
 (B0 : One w bp 2 (.int .i64 (p : Int))) :
 Calls Try.prog 140 #[.agg (zb 64 oneP), .agg (zb 64 f), .int .i64 (k0 : Int), .func (.func 139) #[] #[.pointer (some ⟨bp, 0, none⟩)]] w fun e w' => e = .returned (.agg (zb 64 (pgR (prd p) 64 k0 oneP f))) ∧ Below w.heap.size w w' := by
 have p0 : 0 < p := by omega
 exact powerMul (prd p) (fun _ r s => (∀ i, i < 64 → r i < p) ∧ ∀ i, i < 64 → s i < p) _ f k0 w
  (Lib.hid fun k r s W hP _ hB => timesPow_any p r s bp W p2 p7 hP.1 hP.2 (B0.zw hB)) (Lib.hid fun k r s W hP _ hB => timesPow_any p s s bp W p2 p7 hP.2 hP.2 (B0.zw hB))
  (Lib.hid fun k r s hP _ => ⟨fun i hi => by
   by_cases h : k % 2 = 1
   · rw [if_pos h]; exact prd_lt p0 i
   · rw [if_neg h]; exact hP.1 i hi, fun i _ => prd_lt p0 i⟩)
  (Lib.hid fun x y h => by unfold prd; rw [cut_eq h]) (Lib.hid fun k r s hP i hi => by have := hP.2 i hi; omega) (fun _ => ⟨fun i _ => by unfold oneP; split <;> omega, lf⟩) hk0
set_option maxRecDepth 100000 in
set_option maxHeartbeats 1600000 in
theorem powerOf_any (p : Nat) (f : Nat → Nat) (k : Nat) (w : World) (p2 : 2 ≤ p) (p7 : p ≤ 7) (lf : ∀ k, k < 64 → f k < p) (hk : (k : Int) ≤ 1000000000000) :
 Calls Try.prog 87 #[.int .i64 (p : Int), .agg (zb 64 f), .int .i64 (k : Int)] w fun e w' => e = .returned (.agg (zb 64 (pgR (prd p) 64 k oneP f))) ∧ Below w.heap.size w w' := by
 have HPW := Lib.hid (fun bp W => powMul_any p f k bp W p2 p7 lf hk)
 have hmf : ∀ (fn : Fn) (first cap : Array Value) (w : World), (Instr.makeFunc fn first cap).run Try.prog w = .ok (.func fn first cap) w := fun _ _ _ _ => rfl
 go_enter Try.func87, Try.ntmps87
 go_upto_region 1 with (fail)
 rw [← z64]
 obtain ⟨W1, hwo⟩ : ∃ v : World, v = (((w.alloc (.cells #[(.int .i64 (p : Int))] 2)).alloc (.cells (zb 64 (f)) 23)).alloc (.cells (zb 64 (fun _ => 0)) 23)) := ⟨_, rfl⟩
 have B0 : One W1 (w.heap.size) 2 (.int .i64 (p : Int)) := by subst hwo; have := (((One.new w 2 (.int .i64 (p : Int))).alloc (.cells (zb 64 (f)) 23)).alloc (.cells (zb 64 (fun _ => 0)) 23)); simpa using this
 have B1 : Blk W1 (w.heap.size + 1) 64 23 (f) := by subst hwo; have := ((Blk.new (w.alloc (.cells #[(.int .i64 (p : Int))] 2)) 64 23 (f)).alloc (.cells (zb 64 (fun _ => 0)) 23)); simpa using this
 have B2 : Blk W1 (w.heap.size + 1 + 1) 64 23 (fun _ => 0) := by subst hwo; have := (Blk.new ((w.alloc (.cells #[(.int .i64 (p : Int))] 2)).alloc (.cells (zb 64 (f)) 23)) 64 23 (fun _ => 0)); simpa using this
 have hb : Below w.heap.size w W1 := by subst hwo; exact ((((Below.refl _ _).alloc (Nat.le_refl _) _).alloc (by simp) _).alloc (by simp; omega) _)
 rw [← hwo]
 clear hwo
 go_upto_region 2 with (fail)
 clear hmf
 have lt_B0 := B0.lt
 have lt_B1 := B1.lt
 have lt_B2 := B2.lt
 go_wp2_with (first | rw [← z64] | (refine zbo rfl 23 _ rfl (zb 64 oneP) (by rw [Array.toList_map]; exact built_one) ?_) | (refine zla (.tmp 4) B1 Try.underlying23 Try.size23 ?_) | (go_at_call 140; refine (HPW.out _ _ B0).mono ?_; rintro e W2 ⟨rfl, hW2⟩; replace B0 := B0.zw hW2; replace B1 := B1.zw hW2; replace B2 := B2.zw hW2; replace hb := (hb).trans (hW2.mono (hb).size)) | (refine zsr (.tmp 6) (.tmp 13) (pgR (prd p) 64 k oneP f) B2 Try.size23 ?_; try simp only [Act.put]))
 obtain ⟨W3, hwo, hzQ⟩ : ∃ v : World, v = (W2.setRow (w.heap.size + 1 + 1) (zb 64 (pgR (prd p) 64 k oneP f))) ∧ One v (w.heap.size) 2 (.int .i64 (p : Int)) ∧ Blk v (w.heap.size + 1) 64 23 (f) ∧ Blk v (w.heap.size + 1 + 1) 64 23 (pgR (prd p) 64 k oneP f) ∧ Below w.heap.size w v := ⟨_, rfl, (B0.rowOther (by omega)), (B1.rowOther (by omega)), (B2.row (pgR (prd p) 64 k oneP f)), (zr hb (by omega) _)⟩
 rw [← hwo]
 clear hwo B0 B1 B2 hb
 obtain ⟨B0, B1, B2, hb⟩ := hzQ
 try simp only [Act.put, pA, pB, pC]
 refine bodyPost_ret (zrb rfl _ _ _ 64 23 5 _ rfl B2 Try.underlying23 Try.size23) rfl ⟨rfl, hb⟩
end Go.Proofs.Ytobcdekochenfaa
end
section
namespace Go.Proofs.Ytobcdekochenfaa
open Go Go.RowKit
set_option linter.unusedVariables false
set_option linter.unusedSimpArgs false
attribute [local irreducible] deg invN dS qS stp quoP resP oneP ofN dvo run monL facRows
set_option maxRecDepth 100000 in
set_option maxHeartbeats 12800000 in
theorem l01Count_any (p n : Nat) (w : World) (hp1 : 2 ≤ p) (hp2 : p ≤ 7) (hn : n ≤ 12) :
 Calls Try.prog 75 #[.int .i64 (p : Int), .int .i64 (n : Int)] w fun e w' => e = .returned (.int .i64 ((p ^ n : Nat) : Int)) ∧ w = w' := by
 go_enter Try.func75, Try.ntmps75
 go_wp2_with fail
 go_loopw [5, 1] (fun x i wr => ∃ k j X : Nat, k + j = n ∧ X = p ^ k ∧ x = .int .i64 (X : Int) ∧ i = .int .i64 (j : Int) ∧ wr = w) (fun _ i _ => (intOf i).toNat)
 case atStart => exact ⟨0, n, 1, by omega, rfl, rfl, rfl, rfl⟩
 case round =>
  obtain ⟨k, j, X, hk, hX, rfl, rfl, rfl⟩ := hrel
  have hb := mon_bound hp2 (by omega : k ≤ 12)
  rw [← hX] at hb
  have hX12 : (X : Int) ≤ 1000000000000 := by omega
  have HK := Lib.hid hk
  have hj20 : j ≤ 20 := by omega
  clear hk
  by_cases hlt : 0 < j
  · have hm : ((X * p : Nat) : Int) ≤ 13841287201 * 7 := by
     have : X * p ≤ 13841287201 * 7 := Nat.mul_le_mul hb hp2
     omega
    have hm2 : 0 ≤ ((X * p : Nat) : Int) := by omega
    rw [Int.natCast_mul] at hm hm2
    have HX := Lib.hid hX; clear hX
    go_wp2_with fail
    go_roundw
    case rel => exact ⟨k + 1, j - 1, X * p, by have := HK.out; omega, by rw [Nat.pow_succ, ← HX.out], by go_num, by rw [show ((j - 1 : Nat) : Int) = (j : Int) - 1 by omega], trivial⟩
    case measure => simp [intOf]; omega
  · have e : j = 0 := by omega
    subst e
    have e2 : k = n := by have := HK.out; omega
    have hmn : ((X : Int) < 1000000000001) := by omega
    have HX := Lib.hid hX
    have HK2 := Lib.hid e2
    clear hX e2
    go_wp2_with fail
    go_ret
    exact ⟨ret_int (congrArg (fun x : Nat => (x : Int)) (by rw [HX.out, HK2.out])), rfl⟩
end Go.Proofs.Ytobcdekochenfaa
end
section
namespace Go.Proofs.Ytobcdekochenfaa
open Go Go.RowKit Go.Shelf
set_option linter.unusedVariables false
set_option linter.unusedSimpArgs false
/-- a term of the sum, the program's way -/
theorem sumB_any (p N : Nat) (m c : Nat → Nat) (W : World) (p2 : 2 ≤ p) (p7 : p ≤ 7) (lc : ∀ k, k < 64 → c k < p) : Calls Try.prog 138 #[.int .i64 (p : Int), .agg (zb 64 (prd p (ofN p N) m)), .agg (zb 64 (c))] W fun e w' => e = .returned (.agg (zb 64 (bsS p m c N))) ∧ Below W.heap.size W w' :=
 sum_any p _ c W p2 p7 (fun k _ => prd_lt (by omega) k) lc
theorem powB_any (p d k : Nat) (f : Nat → Nat) (W : World) (p2 : 2 ≤ p) (p7 : p ≤ 7) (lf : ∀ k, k < 64 → f k < p) (hd : deg f = (d : Int)) (hk : d * k ≤ 63) (hk2 : k ≤ 40) : Calls Try.prog 87 #[.int .i64 (p : Int), .agg (zb 64 (f)), .int .i64 (k : Int)] W fun e w' => e = .returned (.agg (zb 64 (exP p f k))) ∧ Below W.heap.size W w' := by
 have h : k < 2 ^ 64 := by have : (40 : Nat) < 2 ^ 64 := (by decide); omega
 rw [zbc (exP_same p2 hd hk h)]
 exact powerOf_any p f k W p2 p7 lf (by omega)
theorem smA_any (p k N : Nat) (m c : Nat → Nat) (l : List Nat) (W : World) (p2 : 2 ≤ p) (p7 : p ≤ 7) (he : ∀ i, i < 64 → exP p (bsS p m c N) k i < p) : Calls Try.prog 138 #[.int .i64 (p : Int), .agg (zb 64 (smS p m c k l)), .agg (zb 64 (exP p (bsS p m c N) k))] W fun e w' => e = .returned (.agg (zb 64 (smS p m c k (l ++ [N])))) ∧ Below W.heap.size W w' := by
 rw [smS_snoc]
 exact sum_any p _ _ W p2 p7 (fun i _ => smS_lt (by omega) l i) he
/-- the model's -/
theorem smL_any (p k N : Nat) (m c : Nat → Nat) (l : List Nat) (W : World) (p2 : 2 ≤ p) (p7 : p ≤ 7) (he : ∀ i, i < 64 → exP p (bsS p m c N) k i < p) : Calls Try.prog 79 #[.int .i64 (p : Int), .agg (zb 64 (smS p m c k l)), .agg (zb 64 (exP p (bsS p m c N) k)), .int .i64 1] W fun e w' => e = .returned (.agg (zb 64 (smS p m c k (l ++ [N])))) ∧ Below W.heap.size W w' := by
 rw [smS_snoc, ← addK_one]
 exact l01Add_any p _ _ 1 W p2 p7 (by omega) (by omega) (fun i _ => smS_lt (by omega) l i) he
theorem exB_lt (p d k : Nat) (f : Nat → Nat) (p2 : 2 ≤ p) (hd : deg f = (d : Int)) (hk : d * k ≤ 63) : ∀ i, i < 64 → exP p f k i < p := (exP_ok p2 hd k hk).1
attribute [local irreducible] deg invN quoP resP prd bsS smS exP pgR ofN oneP
set_option maxRecDepth 100000 in
set_option maxHeartbeats 3200000 in
theorem l08Power_any (p d k0 : Nat) (f : Nat → Nat) (w : World) (p2 : 2 ≤ p) (p7 : p ≤ 7) (lf : ∀ k, k < 64 → f k < p) (hd : deg f = (d : Int)) (hdk : d * k0 ≤ 63) (hk40 : k0 ≤ 40) :
 Calls Try.prog 78 #[.int .i64 (p : Int), .agg (zb 64 f), .int .i64 (k0 : Int)] w fun e w' => e = .returned (.tuple #[.agg (zb 64 (exP p f k0)), .bool true]) ∧ Below w.heap.size w w' := by
 have HEX := Lib.hid (fun j (hj : d * j ≤ 63) => exP_ok p2 hd j hj)
 have HXS := Lib.hid (show ∀ j, exP p f (j + 1) = prd p (exP p f j) f from fun j => by rw [exP])
 have HX0 := Lib.hid (show exP p f 0 = oneP by rw [exP])
 have HDD := Lib.hid hd
 have HDK := Lib.hid hdk
 clear hd hdk
 go_enter Try.func78, Try.ntmps78
 go_upto_region 1 with (fail)
 rw [← z64]
 obtain ⟨W1, hwo⟩ : ∃ v : World, v = ((w.alloc (.cells (zb 64 (f)) 23)).alloc (.cells (zb 64 (fun _ => 0)) 23)) := ⟨_, rfl⟩
 have B0 : Blk W1 (w.heap.size) 64 23 (f) := by subst hwo; have := ((Blk.new w 64 23 (f)).alloc (.cells (zb 64 (fun _ => 0)) 23)); simpa using this
 have B1 : Blk W1 (w.heap.size + 1) 64 23 (fun _ => 0) := by subst hwo; have := (Blk.new (w.alloc (.cells (zb 64 (f)) 23)) 64 23 (fun _ => 0)); simpa using this
 have hb : Below w.heap.size w W1 := by subst hwo; exact (((Below.refl _ _).alloc (Nat.le_refl _) _).alloc (by simp) _)
 rw [← hwo]
 clear hwo
 have lt_B0 := B0.lt
 have lt_B1 := B1.lt
 go_upto_region 99 with (first | rw [← z64] | (go_at_call 80; refine (l01One_any _).mono ?_; rintro e W2 ⟨rfl, hW2⟩; replace B0 := B0.zw hW2; replace B1 := B1.zw hW2; replace hb := (hb).trans (hW2.mono (hb).size)) | (refine wpList_store_blk rfl 23 (.tmp 8) (.tmp 11) rfl _ 64 (oneP) rfl rfl 23 _ ((Blk.new W2 64 23 (fun _ => 0))) Try.size23 ?_; try simp only [Act.put]))
 have lt_B0 := B0.lt
 have lt_B1 := B1.lt
 have lhb := hb.size
 obtain ⟨W3, hwo, hzQ⟩ : ∃ v : World, v = ((W2.alloc (.cells (zb 64 (fun _ => 0)) 23)).setRow (W2.heap.size) (zb 64 (oneP))) ∧ Blk v (w.heap.size) 64 23 (f) ∧ Blk v (w.heap.size + 1) 64 23 (fun _ => 0) ∧ Blk v (W2.heap.size) 64 23 (oneP) ∧ Below w.heap.size w v := ⟨_, rfl, ((B0.alloc (.cells (zb 64 (fun _ => 0)) 23)).rowOther (by omega)), ((B1.alloc (.cells (zb 64 (fun _ => 0)) 23)).rowOther (by omega)), ((Blk.new W2 64 23 (fun _ => 0)).row (oneP)), (zr (hb.alloc (by have := hb.size; simp; omega) (.cells (zb 64 (fun _ => 0)) 23)) (by omega) _)⟩
 rw [← hwo]
 clear hwo B0 B1 hb
 obtain ⟨B0, B1, B2, hb⟩ := hzQ
 obtain ⟨N1, hNN⟩ : ∃ n : Nat, n = W2.heap.size := ⟨_, rfl⟩
 rw [← hNN] at lt_B0 lt_B1 lhb B2 ⊢
 clear hNN
 have zN1_0 := lt_B0
 have zN1_1 := lt_B1
 have zN1 := lhb
 clear lt_B0 lt_B1 lhb
 try simp only [Act.put, pA, pB, pC]
 go_loopw [2] (fun i wr => ∃ q j : Nat, Hid (q + j = k0) ∧ i = .int .i64 (q : Int) ∧ Below w.heap.size w wr ∧ Blk wr (w.heap.size) 64 23 (f) ∧ Blk wr (w.heap.size + 1) 64 23 (fun _ => 0) ∧ Blk wr (N1) 64 23 (exP p f j)) (fun i _ => (intOf i).toNat)
 case atStart => exact ⟨k0, 0, Lib.hid (by omega), rfl, hb, B0, B1, by rw [HX0.out]; exact B2⟩
 case round =>
  clear hb B0 B1 B2
  obtain ⟨q, j, hqj, rfl, hb, B0, B1, B2⟩ := hrel
  by_cases hq0 : q = 0
  · subst hq0
    obtain rfl : j = k0 := by have := hqj.out; omega
    clear hqj
    go_upto_region 8 with (fail)
    have lt_B0 := B0.lt
    have lt_B1 := B1.lt
    have lt_B2 := B2.lt
    go_wp2_with (first | rw [← z64] | (refine zla (.tmp 8) B2 Try.underlying23 Try.size23 ?_) | (refine zsr (.tmp 6) (.tmp 27) (exP p f j) B1 Try.size23 ?_; try simp only [Act.put]; go_wp2_with fail))
    obtain ⟨W4, hwo, hzQ⟩ : ∃ v : World, v = (wr.setRow (w.heap.size + 1) (zb 64 (exP p f j))) ∧ Blk v (w.heap.size) 64 23 (f) ∧ Blk v (w.heap.size + 1) 64 23 (exP p f j) ∧ Blk v (N1) 64 23 (exP p f j) ∧ Below w.heap.size w v := ⟨_, rfl, (B0.rowOther (by omega)), (B1.row (exP p f j)), (B2.rowOther (by omega)), (zr hb (by omega) _)⟩
    rw [← hwo]
    clear hwo B0 B1 B2 hb
    obtain ⟨B0, B1, B2, hb⟩ := hzQ
    try simp only [Act.put, pA, pB, pC]
    refine bodyPost_ret (results_bt rfl _ _ _ 64 23 5 _ rfl B1 Try.underlying23 Try.size23) rfl ⟨rfl, hb⟩
  · obtain ⟨q, rfl⟩ : ∃ t, q = t + 1 := ⟨q - 1, by omega⟩
    have hqi : 0 < ((q + 1 : Nat) : Int) := by omega
    have hq63 : q ≤ 63 := by have := hqj.out; omega
    have hdj : d * (j + 1) ≤ 63 := by
     have h1 := Nat.mul_le_mul_left d (show j + 1 ≤ k0 by have := hqj.out; omega)
     have := HDK.out
     omega
    rw [Nat.mul_succ] at hdj
    obtain ⟨s1, s2, _⟩ := HEX.out j (by omega)
    have HTM := Lib.hid (fun W => l01Times_any p (exP p f j) f W p2 p7 s1 lf)
    have HTV := Lib.hid (show tmV p (exP p f j) f = (exP p f (j + 1), true) by
     rw [HXS.out]
     exact if_pos (by have := HDD.out; omega))
    clear s1 s2 hdj
    go_upto_region 4 with (fail)
    have lt_B0 := B0.lt
    have lt_B1 := B1.lt
    have lt_B2 := B2.lt
    go_upto_region 5 with (first | rw [← z64] | (refine zla (.tmp 8) B2 Try.underlying23 Try.size23 ?_) | (refine zla (.tmp 4) B0 Try.underlying23 Try.size23 ?_) | (go_at_call 76; refine (HTM.out _).mono ?_; rintro e W4 ⟨rfl, hW4⟩; replace B0 := B0.zw hW4; replace B1 := B1.zw hW4; replace B2 := B2.zw hW4; replace hb := (hb).trans (hW4.mono (hb).size); rw [HTV.out]) | (refine wpList_store_blk rfl 23 (.tmp 9) (.tmp 21) rfl _ 64 (exP p f (j + 1)) rfl rfl 23 _ ((Blk.new W4 64 23 (fun _ => 0))) Try.size23 ?_; try simp only [Act.put]; go_upto_region 5 with (fail)))
    have lt_B0 := B0.lt
    have lt_B1 := B1.lt
    have lt_B2 := B2.lt
    have lhb := hb.size
    obtain ⟨W5, hwo, hzQ⟩ : ∃ v : World, v = ((W4.alloc (.cells (zb 64 (fun _ => 0)) 23)).setRow (W4.heap.size) (zb 64 (exP p f (j + 1)))) ∧ Blk v (w.heap.size) 64 23 (f) ∧ Blk v (w.heap.size + 1) 64 23 (fun _ => 0) ∧ Blk v (N1) 64 23 (exP p f j) ∧ Blk v (W4.heap.size) 64 23 (exP p f (j + 1)) ∧ Below w.heap.size w v := ⟨_, rfl, ((B0.alloc (.cells (zb 64 (fun _ => 0)) 23)).rowOther (by omega)), ((B1.alloc (.cells (zb 64 (fun _ => 0)) 23)).rowOther (by omega)), ((B2.alloc (.cells (zb 64 (fun _ => 0)) 23)).rowOther (by omega)), ((Blk.new W4 64 23 (fun _ => 0)).row (exP p f (j + 1))), (zr (hb.alloc (by have := hb.size; simp; omega) (.cells (zb 64 (fun _ => 0)) 23)) (by omega) _)⟩
    rw [← hwo]
    clear hwo B0 B1 B2 hb
    obtain ⟨B0, B1, B2, B3, hb⟩ := hzQ
    obtain ⟨N2, hNN⟩ : ∃ n : Nat, n = W4.heap.size := ⟨_, rfl⟩
    rw [← hNN] at lt_B0 lt_B1 lt_B2 lhb B3 ⊢
    clear hNN
    have zN2_0 := lt_B0
    have zN2_1 := lt_B1
    have zN2_2 := lt_B2
    have zN2 := lhb
    clear lt_B0 lt_B1 lt_B2 lhb
    try simp only [Act.put, pA, pB, pC]
    go_upto_region 7 with (fail)
    have lt_B0 := B0.lt
    have lt_B1 := B1.lt
    have lt_B2 := B2.lt
    have lt_B3 := B3.lt
    go_upto_region 3 with (first | rw [← z64] | (refine zla (.tmp 9) B3 Try.underlying23 Try.size23 ?_) | (refine zsr (.tmp 8) (.tmp 26) (exP p f (j + 1)) B2 Try.size23 ?_; try simp only [Act.put]))
    obtain ⟨W6, hwo, hzQ⟩ : ∃ v : World, v = (W5.setRow (N1) (zb 64 (exP p f (j + 1)))) ∧ Blk v (w.heap.size) 64 23 (f) ∧ Blk v (w.heap.size + 1) 64 23 (fun _ => 0) ∧ Blk v (N1) 64 23 (exP p f (j + 1)) ∧ Blk v (N2) 64 23 (exP p f (j + 1)) ∧ Below w.heap.size w v := ⟨_, rfl, (B0.rowOther (by omega)), (B1.rowOther (by omega)), (B2.row (exP p f (j + 1))), (B3.rowOther (by omega)), (zr hb (by omega) _)⟩
    rw [← hwo]
    clear hwo B0 B1 B2 B3 hb
    obtain ⟨B0, B1, B2, B3, hb⟩ := hzQ
    try simp only [Act.put, pA, pB, pC]
    go_wp2_with fail
    go_roundw
    case rel => exact ⟨q, j + 1, Lib.hid (by have := hqj.out; omega), by go_num, hb, B0, B1, B2⟩
    case measure => simp [intOf] <;> omega
/-- what stands between two rounds -/
def SpI (p d k : Nat) (m c : Nat → Nat) (n0 b5 b7 b8 b9 b10 b11 ba bb bp : Nat) (w : World) (pre : List (MonN p d)) (W : World) : Prop :=
 One W b5 2 (.int .i64 (p : Int)) ∧ One W b7 2 (.int .i64 (k : Int)) ∧ Blk W b8 64 23 m ∧ Blk W b9 64 23 c ∧ Blk W b10 64 23 (fun _ => 0) ∧ Blk W b11 64 23 (smS p m c k (vals pre)) ∧ One W ba 2 (.int .i64 ((p ^ d : Nat) : Int)) ∧ One W bb 2 (.int .i64 ((p ^ d + p ^ d : Nat) : Int)) ∧ One W bp 2 (.int .i64 (p : Int)) ∧ n0 ≤ W.heap.size ∧ Below w.heap.size w W
theorem spI_own {p d k : Nat} {m c : Nat → Nat} {n0 b5 b7 b8 b9 b10 b11 ba bb bp : Nat} {w : World} (hb5 : b5 < n0) (hb7 : b7 < n0) (hb8 : b8 < n0) (hb9 : b9 < n0) (hb10 : b10 < n0) (hb11 : b11 < n0) (hba : ba < n0) (hbb : bb < n0) (hbp : bp < n0) (hw : w.heap.size ≤ n0) : OwnFrom n0 (SpI p d k m c n0 b5 b7 b8 b9 b10 b11 ba bb bp w) := by
 intro pre W W' row h hg hr
 obtain ⟨ab5, ab7, ab8, ab9, ab10, ab11, aba, abb, abp, hn, hB⟩ := h
 have h1 : ∀ r, row = some r → n0 ≤ r := fun r e => (hr r e).1
 exact ⟨ab5.grownO hg h1 hb5, ab7.grownO hg h1 hb7, ab8.grownO hg h1 hb8, ab9.grownO hg h1 hb9, ab10.grownO hg h1 hb10, ab11.grownO hg h1 hb11, aba.grownO hg h1 hba, abb.grownO hg h1 hbb, abp.grownO hg h1 hbp, Nat.le_trans hn hg.size, hB.grown hg hB.size (fun k e => Nat.le_trans hw (h1 k e))⟩
theorem spI_below {p d k : Nat} {m c : Nat → Nat} {n0 b5 b7 b8 b9 b10 b11 ba bb bp : Nat} {w W W' : World} {pre : List (MonN p d)} (h : SpI p d k m c n0 b5 b7 b8 b9 b10 b11 ba bb bp w pre W) (hB : Below W.heap.size W W') : SpI p d k m c n0 b5 b7 b8 b9 b10 b11 ba bb bp w pre W' := by
 obtain ⟨ab5, ab7, ab8, ab9, ab10, ab11, aba, abb, abp, hn, hb0⟩ := h
 exact ⟨ab5.zw hB, ab7.zw hB, ab8.zw hB, ab9.zw hB, ab10.zw hB, ab11.zw hB, aba.zw hB, abb.zw hB, abp.zw hB, Nat.le_trans hn hB.size, hb0.trans (hB.mono hb0.size)⟩
set_option maxRecDepth 100000 in
set_option maxHeartbeats 6400000 in
theorem sumOfPowers_any (p d k : Nat) (m c : Nat → Nat) (w : World) (hpr : p = 2 ∨ p = 3 ∨ p = 5 ∨ p = 7) (lm : ∀ k, k < 64 → m k < p) (lc : ∀ k, k < 64 → c k < p) (hd : d ≤ 8) (hk : k ≤ 40) (hdg : ∀ N, N ∈ monL p d → ∃ D : Nat, deg (bsS p m c N) = (D : Int) ∧ D * k ≤ 63) :
 Calls Try.prog 83 #[.int .i64 (p : Int), .int .i64 (d : Int), .int .i64 (k : Int), .agg (zb 64 m), .agg (zb 64 c)] w fun e w' => e = .returned (.agg (zb 64 (smS p m c k (monL p d)))) ∧ Below w.heap.size w w' := by
 have p2 : 2 ≤ p := by omega
 have p7 : p ≤ 7 := by omega
 have p0 : 0 < p := by omega
 have HDG := Lib.hid hdg
 clear hdg
 refine callsIn_wide.1 (callsIn_of_wp_marks (n := 9) Try.func83 rfl trivial (wpIn_wide.2 ?_) rfl)
 simp only [Try.ntmps83, List.size_toArray, List.length_cons, List.length_nil, Nat.reduceAdd, Nat.reduceSub, Array.replicate_succ, Array.replicate_zero, List.push_toArray, List.append_toArray, List.nil_append, List.cons_append]
 go_upto_region 1 with (fail)
 rw [← z64]
 obtain ⟨W1, hwo⟩ : ∃ v : World, v = (((((w.alloc (.cells #[(.int .i64 (p : Int))] 2)).alloc (.cells #[(.int .i64 (k : Int))] 2)).alloc (.cells (zb 64 (m)) 23)).alloc (.cells (zb 64 (c)) 23)).alloc (.cells (zb 64 (fun _ => 0)) 23)) := ⟨_, rfl⟩
 have B0 : One W1 (w.heap.size) 2 (.int .i64 (p : Int)) := by subst hwo; have := (((((One.new w 2 (.int .i64 (p : Int))).alloc (.cells #[(.int .i64 (k : Int))] 2)).alloc (.cells (zb 64 (m)) 23)).alloc (.cells (zb 64 (c)) 23)).alloc (.cells (zb 64 (fun _ => 0)) 23)); simpa using this
 have B1 : One W1 (w.heap.size + 1) 2 (.int .i64 (k : Int)) := by subst hwo; have := ((((One.new (w.alloc (.cells #[(.int .i64 (p : Int))] 2)) 2 (.int .i64 (k : Int))).alloc (.cells (zb 64 (m)) 23)).alloc (.cells (zb 64 (c)) 23)).alloc (.cells (zb 64 (fun _ => 0)) 23)); simpa using this
 have B2 : Blk W1 (w.heap.size + 1 + 1) 64 23 (m) := by subst hwo; have := (((Blk.new ((w.alloc (.cells #[(.int .i64 (p : Int))] 2)).alloc (.cells #[(.int .i64 (k : Int))] 2)) 64 23 (m)).alloc (.cells (zb 64 (c)) 23)).alloc (.cells (zb 64 (fun _ => 0)) 23)); simpa using this
 have B3 : Blk W1 (w.heap.size + 1 + 1 + 1) 64 23 (c) := by subst hwo; have := ((Blk.new (((w.alloc (.cells #[(.int .i64 (p : Int))] 2)).alloc (.cells #[(.int .i64 (k : Int))] 2)).alloc (.cells (zb 64 (m)) 23)) 64 23 (c)).alloc (.cells (zb 64 (fun _ => 0)) 23)); simpa using this
 have B4 : Blk W1 (w.heap.size + 1 + 1 + 1 + 1) 64 23 (fun _ => 0) := by subst hwo; have := (Blk.new ((((w.alloc (.cells #[(.int .i64 (p : Int))] 2)).alloc (.cells #[(.int .i64 (k : Int))] 2)).alloc (.cells (zb 64 (m)) 23)).alloc (.cells (zb 64 (c)) 23)) 64 23 (fun _ => 0)); simpa using this
 have hb : Below w.heap.size w W1 := by subst hwo; exact ((((((Below.refl _ _).alloc (Nat.le_refl _) _).alloc (by simp) _).alloc (by simp; omega) _).alloc (by simp; omega) _).alloc (by simp; omega) _)
 rw [← hwo]
 clear hwo
 go_upto_region 2 with (first | rw [← z64])
 have lt_B0 := B0.lt
 have lt_B1 := B1.lt
 have lt_B2 := B2.lt
 have lt_B3 := B3.lt
 have lt_B4 := B4.lt
 have lhb := hb.size
 obtain ⟨W2, hwo, hzQ⟩ : ∃ v : World, v = (W1.alloc (.cells (zb 64 (fun _ => 0)) 23)) ∧ One v (w.heap.size) 2 (.int .i64 (p : Int)) ∧ One v (w.heap.size + 1) 2 (.int .i64 (k : Int)) ∧ Blk v (w.heap.size + 1 + 1) 64 23 (m) ∧ Blk v (w.heap.size + 1 + 1 + 1) 64 23 (c) ∧ Blk v (w.heap.size + 1 + 1 + 1 + 1) 64 23 (fun _ => 0) ∧ Blk v (W1.heap.size) 64 23 (fun _ => 0) ∧ Below w.heap.size w v := ⟨_, rfl, (B0.alloc (.cells (zb 64 (fun _ => 0)) 23)), (B1.alloc (.cells (zb 64 (fun _ => 0)) 23)), (B2.alloc (.cells (zb 64 (fun _ => 0)) 23)), (B3.alloc (.cells (zb 64 (fun _ => 0)) 23)), (B4.alloc (.cells (zb 64 (fun _ => 0)) 23)), (Blk.new W1 64 23 (fun _ => 0)), (hb.alloc (by have := hb.size; simp; omega) (.cells (zb 64 (fun _ => 0)) 23))⟩
 rw [← hwo]
 clear hwo B0 B1 B2 B3 B4 hb
 obtain ⟨B0, B1, B2, B3, B4, B5, hb⟩ := hzQ
 obtain ⟨N1, hNN⟩ : ∃ n : Nat, n = W1.heap.size := ⟨_, rfl⟩
 rw [← hNN] at lt_B0 lt_B1 lt_B2 lt_B3 lt_B4 lhb B5 ⊢
 clear hNN
 have zN1_0 := lt_B0
 have zN1_1 := lt_B1
 have zN1_2 := lt_B2
 have zN1_3 := lt_B3
 have zN1_4 := lt_B4
 have zN1 := lhb
 clear lt_B0 lt_B1 lt_B2 lt_B3 lt_B4 lhb
 try simp only [Act.put, pA, pB, pC]
 go_upto_block 0 with (first | (refine zlo rfl 2 (.tmp 5) rfl _ rfl 2 ((.int .i64 (p : Int))) (B0) _ Try.underlying2 rfl ?_) | (go_at_call 137; refine (monics_any p d _ p2 p7 (by omega)).mono ?_; rintro e WM ⟨ba, bb, bp, rfl, hba0, hbb0, hbp0, C0, C1, C2, hWM⟩))
 have na_0 : (w.heap.size) < ba := by have := B0.lt; omega
 have nb_0 : (w.heap.size) < bb := by have := B0.lt; omega
 have np_0 : (w.heap.size) < bp := by have := B0.lt; omega
 have na_1 : (w.heap.size + 1) < ba := by have := B1.lt; omega
 have nb_1 : (w.heap.size + 1) < bb := by have := B1.lt; omega
 have np_1 : (w.heap.size + 1) < bp := by have := B1.lt; omega
 have na_2 : (w.heap.size + 1 + 1) < ba := by have := B2.lt; omega
 have nb_2 : (w.heap.size + 1 + 1) < bb := by have := B2.lt; omega
 have np_2 : (w.heap.size + 1 + 1) < bp := by have := B2.lt; omega
 have na_3 : (w.heap.size + 1 + 1 + 1) < ba := by have := B3.lt; omega
 have nb_3 : (w.heap.size + 1 + 1 + 1) < bb := by have := B3.lt; omega
 have np_3 : (w.heap.size + 1 + 1 + 1) < bp := by have := B3.lt; omega
 have na_4 : (w.heap.size + 1 + 1 + 1 + 1) < ba := by have := B4.lt; omega
 have nb_4 : (w.heap.size + 1 + 1 + 1 + 1) < bb := by have := B4.lt; omega
 have np_4 : (w.heap.size + 1 + 1 + 1 + 1) < bp := by have := B4.lt; omega
 have na_5 : (N1) < ba := by have := B5.lt; omega
 have nb_5 : (N1) < bb := by have := B5.lt; omega
 have np_5 : (N1) < bp := by have := B5.lt; omega
 replace B0 := B0.zw hWM
 replace B1 := B1.zw hWM
 replace B2 := B2.zw hWM
 replace B3 := B3.zw hWM
 replace B4 := B4.zw hWM
 replace B5 := B5.zw hWM
 replace hb := hb.trans (hWM.mono hb.size)
 clear hba0 hbb0 hbp0 hWM
 have lB0 : (w.heap.size) < WM.heap.size := B0.lt
 have lB1 : (w.heap.size + 1) < WM.heap.size := B1.lt
 have lB2 : (w.heap.size + 1 + 1) < WM.heap.size := B2.lt
 have lB3 : (w.heap.size + 1 + 1 + 1) < WM.heap.size := B3.lt
 have lB4 : (w.heap.size + 1 + 1 + 1 + 1) < WM.heap.size := B4.lt
 have lB5 : (N1) < WM.heap.size := B5.lt
 have lC0 : ba < WM.heap.size := C0.lt
 have lC1 : bb < WM.heap.size := C1.lt
 have lC2 : bp < WM.heap.size := C2.lt
 have lw : w.heap.size ≤ WM.heap.size := hb.size
 refine (wpIn_wide (n := 9)).1 (wpIn_block ?_)
 refine wpIn_rangeFunc_ownH (F := Fence.wide) (n := 9) rfl (by omega) (gf := 216) (lb := #[.pointer (some ⟨ba, 0, none⟩), .pointer (some ⟨bb, 0, none⟩), .pointer (some ⟨bp, 0, none⟩)]) rfl trivial (enters_of Try.func216 (by kernel_rfl) rfl)
  (numbered1_stops 8 p (p ^ d) (p ^ d) p2 p7 (mon_bound p7 (by omega)) (mon_bound p7 (by omega)) ba bb bp WM C0 C1 C2) KpN.trans (KpN.put C0.lt C1.lt C2.lt) (Below.refl _ _) (fun _ => rfl)
  (SpI p d k m c WM.heap.size (w.heap.size) (w.heap.size + 1) (w.heap.size + 1 + 1) (w.heap.size + 1 + 1 + 1) (w.heap.size + 1 + 1 + 1 + 1) (N1) ba bb bp w) (fun _ _ _ => False)
  (spI_own lB0 lB1 lB2 lB3 lB4 lB5 lC0 lC1 lC2 lw)
  (fun _ _ _ _ _ h _ _ => h)
  ⟨B0, B1, B2, B3, B4, (by rw [vals_nil, smS_nil]; exact B5), C0, C1, C2, Nat.le_refl _, hb⟩
  (fun (x : MonN p d) (a' : Act) (W : World) => ∃ b12, WM.heap.size ≤ b12 ∧ Blk W b12 64 23 (ofN p x.1) ∧ a' = { tmps := #[(.int .i64 (p : Int)), (.int .i64 (d : Int)), (.int .i64 (k : Int)), (.agg (zb 64 (m))), (.agg (zb 64 (c))), (.pointer (some ⟨w.heap.size, 0, none⟩)), undef, (.pointer (some ⟨w.heap.size + 1, 0, none⟩)), (.pointer (some ⟨w.heap.size + 1 + 1, 0, none⟩)), (.pointer (some ⟨w.heap.size + 1 + 1 + 1, 0, none⟩)), (.pointer (some ⟨w.heap.size + 1 + 1 + 1 + 1, 0, none⟩)), (.pointer (some ⟨N1, 0, none⟩)), (.pointer (some ⟨b12, 0, none⟩)), undef, (.int .i64 (p : Int)), (.int .i64 (d : Int)), (.func (.func 216) #[] #[.pointer (some ⟨ba, 0, none⟩), .pointer (some ⟨bb, 0, none⟩), .pointer (some ⟨bp, 0, none⟩)]), (.agg (zb 64 (ofN p x.1))), undef, undef, undef, undef, undef, undef, undef, undef, undef, undef, undef, undef, undef, undef, undef], defers := [] })
  (by
   rintro x a' _ W W' row ⟨b12, h12, hB, rfl⟩ hg hr
   exact ⟨b12, h12, by
    unfold Blk at *
    rw [hg.block b12 (Array.getElem?_eq_some_iff.1 hB).1 (fun e => by
     obtain ⟨_, o, ho, hc⟩ := hr b12 e.symm
     rw [hB] at ho; cases ho; cases hc)]
    exact hB, rfl⟩) ?assign ?body ?done ?stop
 all_goals clear B0 B1 B2 B3 B4 B5 C0 C1 C2 hb
 case stop =>
  intro D' c pre W _ _ h _
  exact h.elim
 case assign =>
  intro l pre x W K hi hK
  refine regionIn_of (nd_of (by rfl)) (fun _ _ h => h) ?_
  unfold numEnc
  have hN : Blk (W.alloc (.cells (zb 64 fun _ => 0) 23)) W.heap.size 64 23 (fun _ => 0) := Blk.new W 64 23 _
  go_wp2_with (first | rw [← z64] | (refine zsr (.tmp 12) (.tmp 17) (ofN p x.1) hN Try.size23 ?_))
  have hBB : Below W.heap.size W ((W.alloc (.cells (zb 64 fun _ => 0) 23)).setRow W.heap.size (zb 64 (ofN p x.1))) := zr (zal _ _) (Nat.le_refl _) _
  have hi2 := hi
  obtain ⟨_, _, _, _, _, _, aa, ab, ap, z0, _⟩ := hi
  refine hK _ _ ((KF.refl _ W).below hBB (Nat.le_refl _)) ⟨hBB.block _ aa.lt, hBB.block _ ab.lt, hBB.block _ ap.lt⟩ (spI_below hi2 hBB) ⟨W.heap.size, z0, hN.row _, rfl⟩
 case body =>
  rintro l pre ⟨x, hx⟩ a' W hl _ hi ⟨bx, h12, B6, rfl⟩ hlen
  unfold SpI at hi
  obtain ⟨B0, B1, B2, B3, B4, B5, B7, B8, B9, hnW, hb⟩ := hi
  have HA0 := Lib.hid (show One W ba 2 (.int .i64 ((p ^ d : Nat) : Int)) from B7)
  have HB0 := Lib.hid (show One W bb 2 (.int .i64 ((p ^ d + p ^ d : Nat) : Int)) from B8)
  have HP0 := Lib.hid (show One W bp 2 (.int .i64 (p : Int)) from B9)
  have B10 := KF.refl WM.heap.size W
  obtain ⟨D, hD1, hD2⟩ := HDG.out x hx
  have he := exB_lt p D k (bsS p m c x) p2 hD1 hD2
  have HPR := Lib.hid (fun W => product_any p (ofN p x) m W p2 p7 (fun k _ => ofN_lt p0 x k) lm)
  have HSB := Lib.hid (fun W => sumB_any p x m c W p2 p7 lc)
  have HPW := Lib.hid (fun W => powB_any p D k (bsS p m c x) W p2 p7 (fun k _ => bsS_lt p0 k) hD1 hD2 hk)
  have HSA := Lib.hid (fun W => smA_any p k x m c (vals pre) W p2 p7 he)
  have hVS : vals (pre ++ [⟨x, hx⟩]) = vals pre ++ [x] := vals_snoc _ _
  have HVS := Lib.hid hVS
  clear hVS hD1 hD2 he hlen hl
  refine wpIn_block ?_
  refine wpIn_seq ?_
  have lt_B0 : (w.heap.size) < W.heap.size := B0.lt
  have lt_B1 : (w.heap.size + 1) < W.heap.size := B1.lt
  have lt_B2 : (w.heap.size + 1 + 1) < W.heap.size := B2.lt
  have lt_B3 : (w.heap.size + 1 + 1 + 1) < W.heap.size := B3.lt
  have lt_B4 : (w.heap.size + 1 + 1 + 1 + 1) < W.heap.size := B4.lt
  have lt_B5 : (N1) < W.heap.size := B5.lt
  have lt_B6 : (bx) < W.heap.size := B6.lt
  have lt_B7 : (ba) < W.heap.size := B7.lt
  have lt_B8 : (bb) < W.heap.size := B8.lt
  have lt_B9 : (bp) < W.heap.size := B9.lt
  have lt_B10 : (W.heap.size) ≤ W.heap.size := B10.lt
  refine wpIn_region_steps0 (fun _ _ h => h) (nd_of (by rfl)) Try.mixed (by kernel_rfl) (by kernel_rfl) (fun v => by (simp only [frL, Act.put, pA, pB, pC, Nat.reduceAdd, Nat.zero_add]; exact rfl))
   (fun L v W3 => Below W.heap.size W W3 ∧ (L 7 = true → AF (v 7) W3 W.heap.size 64 23) ∧ (L 8 = true → PF (v 7) W3 W.heap.size 64 23 (bsS p m c x)) ∧ VF L v [some (.int .i64 (p : Int)), some (.int .i64 (p : Int)), some (.agg (zb 64 (ofN p x))), some (.agg (zb 64 (m))), some (.agg (zb 64 (prd p (ofN p x) m))), some (.agg (zb 64 (c))), some (.agg (zb 64 (bsS p m c x))), none, none]) ?_ ?_ ?_
  · intro v hv0
    exact ⟨(Below.refl _ W).drew, (fun h => by cases h), (fun h => by cases h), VF.start⟩
  · refine (.cons rfl ?_ (.cons rfl ?_ (.cons rfl ?_ (.cons rfl ?_ (.cons rfl ?_ (.cons rfl ?_ (.cons rfl ?_ (.cons rfl ?_ (.cons rfl ?_ (.nil _))))))))))
    all_goals intro L v W3 hd hn ⟨hY, h7, h8, V⟩ K hK
    · refine wp_load_one 2 _ rfl _ rfl 2 _ (B0.zw hY) _ Try.underlying2 rfl ?_
      exact hK _ _ _ rfl ⟨hY, h7, h8, V.step 0 rfl⟩
    · refine wp_load_one 2 _ rfl _ rfl 2 _ (B0.zw hY) _ Try.underlying2 rfl ?_
      exact hK _ _ _ rfl ⟨hY, h7, h8, V.step 1 rfl⟩
    · refine zlc (B6.zw hY) Try.underlying23 Try.size23 ?_
      exact hK _ _ _ rfl ⟨hY, h7, h8, V.step 2 rfl⟩
    · refine zlc (B2.zw hY) Try.underlying23 Try.size23 ?_
      exact hK _ _ _ rfl ⟨hY, h7, h8, V.step 3 rfl⟩
    · have e1 := V.at (zdq hd 1 rfl) rfl
      have e2 := V.at (zdq hd 2 rfl) rfl
      have e3 := V.at (zdq hd 3 rfl) rfl
      go_wp2_with (go_at_call 117; refine (HPR.out _).mono ?_; rintro e wy ⟨rfl, hy⟩)
      exact hK _ (.agg (zb 64 (prd p (ofN p x) m))) _ (by simp only [Act.put, pA, pB, pC, e1, e2, e3]) ⟨hY.trans (hy.mono hY.size), (fun h => (h7 h).below hy), (fun h => (h8 h).below hy), V.step 4 rfl⟩
    · refine zlc (B3.zw hY) Try.underlying23 Try.size23 ?_
      exact hK _ _ _ rfl ⟨hY, h7, h8, V.step 5 rfl⟩
    · have e0 := V.at (zdq hd 0 rfl) rfl
      have e4 := V.at (zdq hd 4 rfl) rfl
      have e5 := V.at (zdq hd 5 rfl) rfl
      go_wp2_with (go_at_call 138; refine (HSB.out _).mono ?_; rintro e wy ⟨rfl, hy⟩)
      exact hK _ (.agg (zb 64 (bsS p m c x))) _ (by simp only [Act.put, pA, pB, pC, e0, e4, e5]) ⟨hY.trans (hy.mono hY.size), (fun h => (h7 h).below hy), (fun h => (h8 h).below hy), V.step 6 rfl⟩
    · go_wp2_with fail
      rw [← z64]
      exact hK _ (.pointer (some ⟨W3.heap.size, 0, none⟩)) _ (by simp only [Act.put, pA, pB, pC ]) ⟨hY.alloc hY.size _, (fun _ => (PF.new W3 64 23 _ hY.size).af), (fun h => absurd rfl (hn 8 _ rfl h ⟨7, .data⟩ (by simp) rfl)), V.skip 7 rfl⟩
    · have e6 := V.at (zdq hd 6 rfl) rfl
      obtain ⟨gz, b, ea, hN, hk⟩ := (h7 (zdq hd 7 rfl)).out
      refine zsb 23 _ _ rfl b 64 (bsS p m c x) ea e6 23 gz hk Try.size23 ?_
      exact hK _ undef _ rfl ⟨zr hY hN _, (fun h => (h7 h).row hk), (fun _ => by rw [show updV v 8 undef 7 = v 7 from rfl, ea]; exact PF.row hk hN _), V.skip 8 rfl⟩
  · intro L v W3 hL ⟨hY, h7, h8, V⟩
    obtain ⟨k4_7, e7, hNk4_7, hk4_7⟩ := (h8 (hL 8 (by decide))).out
    have e0 := V.at (hL 0 (by decide)) rfl
    have e1 := V.at (hL 1 (by decide)) rfl
    have e2 := V.at (hL 2 (by decide)) rfl
    have e3 := V.at (hL 3 (by decide)) rfl
    have e4 := V.at (hL 4 (by decide)) rfl
    have e5 := V.at (hL 5 (by decide)) rfl
    have e6 := V.at (hL 6 (by decide)) rfl
    clear hL h7 h8 V
    replace B0 := B0.zw hY
    replace B1 := B1.zw hY
    replace B2 := B2.zw hY
    replace B3 := B3.zw hY
    replace B4 := B4.zw hY
    replace B5 := B5.zw hY
    replace B6 := B6.zw hY
    replace B7 := B7.zw hY
    replace B8 := B8.zw hY
    replace B9 := B9.zw hY
    replace B10 := B10.zw hY
    replace hb := hb.trans (hY.mono hb.size)
    clear hY
    simp only [Exit.then, e7, e0, e1, e2, e3, e4, e5, e6]
    clear e7 e0 e1 e2 e3 e4 e5 e6
    have B11 := hk4_7
    clear hk4_7
    have zk4_7_0 : w.heap.size < k4_7 := by omega
    have zk4_7_1 : w.heap.size + 1 < k4_7 := by omega
    have zk4_7_2 : w.heap.size + 1 + 1 < k4_7 := by omega
    have zk4_7_3 : w.heap.size + 1 + 1 + 1 < k4_7 := by omega
    have zk4_7_4 : w.heap.size + 1 + 1 + 1 + 1 < k4_7 := by omega
    have zk4_7_5 : N1 < k4_7 := by omega
    have zk4_7_6 : bx < k4_7 := by omega
    have zk4_7_7 : ba < k4_7 := by omega
    have zk4_7_8 : bb < k4_7 := by omega
    have zk4_7_9 : bp < k4_7 := by omega
    have zk4_7_10 : W.heap.size ≤ k4_7 := by omega
    clear lt_B0 lt_B1 lt_B2 lt_B3 lt_B4 lt_B5 lt_B6 lt_B7 lt_B8 lt_B9 lt_B10
    have lt_B0 : (w.heap.size) < W3.heap.size := B0.lt
    have lt_B1 : (w.heap.size + 1) < W3.heap.size := B1.lt
    have lt_B2 : (w.heap.size + 1 + 1) < W3.heap.size := B2.lt
    have lt_B3 : (w.heap.size + 1 + 1 + 1) < W3.heap.size := B3.lt
    have lt_B4 : (w.heap.size + 1 + 1 + 1 + 1) < W3.heap.size := B4.lt
    have lt_B5 : (N1) < W3.heap.size := B5.lt
    have lt_B6 : (bx) < W3.heap.size := B6.lt
    have lt_B7 : (ba) < W3.heap.size := B7.lt
    have lt_B8 : (bb) < W3.heap.size := B8.lt
    have lt_B9 : (bp) < W3.heap.size := B9.lt
    have lt_B10 : (W.heap.size) ≤ W3.heap.size := B10.lt
    have lt_B11 : (k4_7) < W3.heap.size := B11.lt
    have hbase : w.heap.size ≤ W3.heap.size := hb.size
    refine wpIn_region_steps0 (fun _ _ h => h) (nd_of (by rfl)) Try.mixed (by kernel_rfl) (by kernel_rfl) (fun v => by (simp only [frL, Act.put, pA, pB, pC, Nat.reduceAdd, Nat.zero_add]; exact rfl))
     (fun L v W4 => Below w.heap.size w W4 ∧ W3.heap.size ≤ W4.heap.size ∧ One W4 (w.heap.size) 2 (.int .i64 (p : Int)) ∧ One W4 (w.heap.size + 1) 2 (.int .i64 (k : Int)) ∧ Blk W4 (w.heap.size + 1 + 1) 64 23 (m) ∧ Blk W4 (w.heap.size + 1 + 1 + 1) 64 23 (c) ∧ Blk W4 (w.heap.size + 1 + 1 + 1 + 1) 64 23 (fun _ => 0) ∧ (∃ g, Blk W4 (N1) 64 23 (g)) ∧ (L 7 = false → Blk W4 (N1) 64 23 (smS p m c k (vals pre))) ∧ (L 7 = true → Blk W4 (N1) 64 23 (smS p m c k (vals pre ++ [x]))) ∧ Blk W4 (bx) 64 23 (ofN p x) ∧ One W4 (ba) 2 (.int .i64 ((p ^ d : Nat) : Int)) ∧ One W4 (bb) 2 (.int .i64 ((p ^ d + p ^ d : Nat) : Int)) ∧ One W4 (bp) 2 (.int .i64 (p : Int)) ∧ KF WM.heap.size W W4 ∧ Blk W4 (k4_7) 64 23 (bsS p m c x) ∧ VF L v [some (.int .i64 (p : Int)), some (.agg (zb 64 (smS p m c k (vals pre)))), some (.int .i64 (p : Int)), some (.agg (zb 64 (bsS p m c x))), some (.int .i64 (k : Int)), some (.agg (zb 64 (exP p (bsS p m c x) k))), some (.agg (zb 64 (smS p m c k (vals pre ++ [x])))), none]) ?_ ?_ ?_
    · intro v hv0
      exact ⟨hb.drew, Nat.le_refl _, B0.drew, B1.drew, B2.drew, B3.drew, B4.drew, ⟨_, B5.drew⟩, (fun _ => B5.drew), (fun h => by cases h), B6.drew, B7.drew, B8.drew, B9.drew, B10.drew, B11.drew, VF.start⟩
    · refine (.cons rfl ?_ (.cons rfl ?_ (.cons rfl ?_ (.cons rfl ?_ (.cons rfl ?_ (.cons rfl ?_ (.cons rfl ?_ (.cons rfl ?_ (.nil _)))))))))
      all_goals intro L v W4 hd hn ⟨hB, hz, s0, s1, s2, s3, s4, x5, q5, n5, s6, s7, s8, s9, s10, s11, V⟩ K hK
      · refine wp_load_one 2 _ rfl _ rfl 2 _ s0 _ Try.underlying2 rfl ?_
        exact hK _ _ _ rfl ⟨hB, hz, s0, s1, s2, s3, s4, x5, q5, n5, s6, s7, s8, s9, s10, s11, V.step 0 rfl⟩
      · have s5 := q5 (by
         cases hL : L 7 with
         | false => rfl
         | true => exact absurd rfl (hn 7 _ rfl hL ⟨1, .phase⟩ (by simp) rfl))
        refine zlc s5 Try.underlying23 Try.size23 ?_
        exact hK _ _ _ rfl ⟨hB, hz, s0, s1, s2, s3, s4, x5, q5, n5, s6, s7, s8, s9, s10, s11, V.step 1 rfl⟩
      · refine wp_load_one 2 _ rfl _ rfl 2 _ s0 _ Try.underlying2 rfl ?_
        exact hK _ _ _ rfl ⟨hB, hz, s0, s1, s2, s3, s4, x5, q5, n5, s6, s7, s8, s9, s10, s11, V.step 2 rfl⟩
      · refine zlc s11 Try.underlying23 Try.size23 ?_
        exact hK _ _ _ rfl ⟨hB, hz, s0, s1, s2, s3, s4, x5, q5, n5, s6, s7, s8, s9, s10, s11, V.step 3 rfl⟩
      · refine wp_load_one 2 _ rfl _ rfl 2 _ s1 _ Try.underlying2 rfl ?_
        exact hK _ _ _ rfl ⟨hB, hz, s0, s1, s2, s3, s4, x5, q5, n5, s6, s7, s8, s9, s10, s11, V.step 4 rfl⟩
      · have e2 := V.at (zdq hd 2 rfl) rfl
        have e3 := V.at (zdq hd 3 rfl) rfl
        have e4 := V.at (zdq hd 4 rfl) rfl
        go_wp2_with (go_at_call 87; refine (HPW.out _).mono ?_; rintro e wy ⟨rfl, hy⟩)
        exact hK _ (.agg (zb 64 (exP p (bsS p m c x) k))) _ (by simp only [Act.put, pA, pB, pC, e2, e3, e4]) ⟨hB.trans (hy.mono hB.size), (Nat.le_trans hz hy.size), s0.zw hy, s1.zw hy, s2.zw hy, s3.zw hy, s4.zw hy, (let ⟨g, h⟩ := x5; ⟨g, h.zw hy⟩), (fun h => (q5 h).below hy (q5 h).lt), (fun h => (n5 h).below hy (n5 h).lt), s6.zw hy, s7.zw hy, s8.zw hy, s9.zw hy, s10.zw hy, s11.zw hy, V.step 5 rfl⟩
      · have e0 := V.at (zdq hd 0 rfl) rfl
        have e1 := V.at (zdq hd 1 rfl) rfl
        have e5 := V.at (zdq hd 5 rfl) rfl
        go_wp2_with (go_at_call 138; refine (HSA.out _).mono ?_; rintro e wy ⟨rfl, hy⟩)
        exact hK _ (.agg (zb 64 (smS p m c k (vals pre ++ [x])))) _ (by simp only [Act.put, pA, pB, pC, e0, e1, e5]) ⟨hB.trans (hy.mono hB.size), (Nat.le_trans hz hy.size), s0.zw hy, s1.zw hy, s2.zw hy, s3.zw hy, s4.zw hy, (let ⟨g, h⟩ := x5; ⟨g, h.zw hy⟩), (fun h => (q5 h).below hy (q5 h).lt), (fun h => (n5 h).below hy (n5 h).lt), s6.zw hy, s7.zw hy, s8.zw hy, s9.zw hy, s10.zw hy, s11.zw hy, V.step 6 rfl⟩
      · have e6 := V.at (zdq hd 6 rfl) rfl
        obtain ⟨gz, hk⟩ := x5
        refine zsb 23 _ _ rfl _ 64 (smS p m c k (vals pre ++ [x])) rfl e6 23 gz hk Try.size23 ?_
        exact hK _ undef _ rfl ⟨zr hB (by omega) _, (by simpa [World.setRow] using hz), (s0).rowOther (by omega), (s1).rowOther (by omega), (s2).rowOther (by omega), (s3).rowOther (by omega), (s4).rowOther (by omega), ⟨_, hk.row _⟩, (fun h => absurd h (by simp [setL])), (fun _ => hk.row _), (s6).rowOther (by omega), (s7).rowOther (by omega), (s8).rowOther (by omega), (s9).rowOther (by omega), (s10).rowOther (by omega), (s11).rowOther (by omega), V.skip 7 rfl⟩
    · intro L v W4 hL ⟨hB, hz, s0, s1, s2, s3, s4, x5, q5, n5, s6, s7, s8, s9, s10, s11, V⟩
      have r5 := n5 (hL 7 (by decide))
      have e0 := V.at (hL 0 (by decide)) rfl
      have e1 := V.at (hL 1 (by decide)) rfl
      have e2 := V.at (hL 2 (by decide)) rfl
      have e3 := V.at (hL 3 (by decide)) rfl
      have e4 := V.at (hL 4 (by decide)) rfl
      have e5 := V.at (hL 5 (by decide)) rfl
      have e6 := V.at (hL 6 (by decide)) rfl
      clear hL x5 q5 n5 V
      simp only [Exit.then, e0, e1, e2, e3, e4, e5, e6]
      clear e0 e1 e2 e3 e4 e5 e6
      replace B0 := s0
      clear s0
      replace B1 := s1
      clear s1
      replace B2 := s2
      clear s2
      replace B3 := s3
      clear s3
      replace B4 := s4
      clear s4
      replace B5 := r5
      clear r5
      replace B6 := s6
      clear s6
      replace B7 := s7
      clear s7
      replace B8 := s8
      clear s8
      replace B9 := s9
      clear s9
      replace B10 := s10
      clear s10
      replace B11 := s11
      clear s11
      replace hb := hB
      clear hB
      clear hbase hz lt_B0 lt_B1 lt_B2 lt_B3 lt_B4 lt_B5 lt_B6 lt_B7 lt_B8 lt_B9 lt_B10 lt_B11
      exact ⟨B10, (show KpN ba bb bp W W4 from ⟨One.same HA0.out B7, One.same HB0.out B8, One.same HP0.out B9⟩), (show SpI p d k m c WM.heap.size (w.heap.size) (w.heap.size + 1) (w.heap.size + 1 + 1) (w.heap.size + 1 + 1 + 1) (w.heap.size + 1 + 1 + 1 + 1) (N1) ba bb bp w (pre ++ [⟨x, hx⟩]) W4 by unfold SpI; rw [HVS.out]; exact ⟨B0, B1, B2, B3, B4, B5, B7, B8, B9, Nat.le_trans hnW B10.lt, hb⟩)⟩
 case done =>
  rintro DD ys W hD hS hi hK
  unfold SpI at hi
  rw [show vals ys = monL p d from hS] at hi
  clear hS
  have HDF : DF W DD := hK
  obtain ⟨B0, B1, B2, B3, B4, B5, _, _, _, _, hb⟩ := hi
  clear hK
  have lt10 := B4.lt
  go_wp2_with (first | (refine zla (.tmp 11) B5 Try.underlying23 Try.size23 ?_) | (refine zsr (.tmp 10) (.tmp 32) (smS p m c k (monL p d)) B4 Try.size23 ?_))
  have hne : (w.heap.size + 1 + 1 + 1 + 1) ≠ DD := by omega
  have fin : DF (W.setRow (w.heap.size + 1 + 1 + 1 + 1) (zb 64 (smS p m c k (monL p d)))) DD := HDF.rowOther (by omega)
  have g10 : Blk (W.setRow (w.heap.size + 1 + 1 + 1 + 1) (zb 64 (smS p m c k (monL p d)))) (w.heap.size + 1 + 1 + 1 + 1) 64 23 (smS p m c k (monL p d)) := B4.row _
  have ghb : Below w.heap.size w (W.setRow (w.heap.size + 1 + 1 + 1 + 1) (zb 64 (smS p m c k (monL p d)))) := zr hb (by omega) _
  refine ⟨by simp, .inl ⟨_, _, rfl, run_takeDeferred (show (W.setRow (w.heap.size + 1 + 1 + 1 + 1) (zb 64 (smS p m c k (monL p d)))).heap[DD]? = some (.deferred (some [])) from fin), ?_⟩⟩
  have hg := grownBy_putObj' (W.setRow (w.heap.size + 1 + 1 + 1 + 1) (zb 64 (smS p m c k (monL p d)))) DD (.deferred none)
  exact ⟨_, zrb rfl _ _ _ 64 23 5 _ rfl (g10.grown hg hne) Try.underlying23 Try.size23, rfl, ghb.grown hg ghb.size (fun k e => by cases e; omega)⟩
end Go.Proofs.Ytobcdekochenfaa
end
section
namespace Go.Proofs.Ytobcdekochenfaa
open Go Go.RowKit
set_option linter.unusedVariables false
set_option linter.unusedSimpArgs false
/-- the mark of a cell -/
def mkF (q : Nat) : Value := if q % 65 = 64 then .int .i64 (1 + (q : Int)) else .int .u8 ((1 + (q : Int)) % 256)
/-- the first q cells of a slice are marked -/
def MkF (w : World) (base : Nat) (v : Value) (n q : Nat) : Prop := ∃ ys, w.ownsRow base 149 65 v n ys ∧ ∀ k, k < q → ys[k]? = some (mkF k)
theorem MkF.own {w : World} {base n q : Nat} {v : Value} (h : MkF w base v n q) : ∀ r, v.ownBlock = Option.some r → base ≤ r ∧ r < w.heap.size := by
 obtain ⟨ys, h1, _⟩ := h
 exact fun r hr => h1.lt r hr
theorem MkF.grown {w w' : World} {base n q : Nat} {v : Value} {row : Option Nat} (h : MkF w base v n q) (hg : w.grownBy w' row) (hr : v.ownBlock = none ∨ v.ownBlock ≠ row) : MkF w' base v n q := by
 obtain ⟨ys, h1, h2⟩ := h
 exact ⟨ys, h1.kept hg hr, h2⟩
theorem MkF.below {w w' : World} {base n q : Nat} {v : Value} (h : MkF w base v n q) (hb : Below w.heap.size w w') : MkF w' base v n q :=
 h.grown (row := none) ⟨hb.os, hb.tape, hb.output, hb.size, fun k hk _ => hb.block k hk⟩ (by
  cases hv : v.ownBlock with
  | none => exact .inl rfl
  | some k => exact .inr (by simp))
theorem MkF.step {w : World} {base n q g cap : Nat} (h : MkF w base (.slice (some ⟨g, 0, none⟩) n cap) n q) (hq : q < n * 65) :
 (∃ u, w.cell? ⟨g, q, none⟩ = Option.some u) ∧ w.frozen? ⟨g, q, none⟩ = false ∧ MkF (w.setCell ⟨g, q, none⟩ (mkF q)) base (.slice (some ⟨g, 0, none⟩) n cap) n (q + 1) ∧ w.grownBy (w.setCell ⟨g, q, none⟩ (mkF q)) (Option.some g) := by
 obtain ⟨ys, h1, h2⟩ := h
 have hl : q < ys.length := by rw [h1.1]; exact hq
 obtain ⟨s1, s2⟩ := h1.stored q (mkF q)
 refine ⟨⟨ys[q], by rw [h1.cellAt q hq]; exact List.getElem?_eq_getElem hl⟩, h1.frozenAt q, ⟨_, s1, fun k hk => ?_⟩, s2⟩
 rw [List.getElem?_set]
 by_cases e : q = k
 · subst e; rw [if_pos rfl, if_pos hl]
 · rw [if_neg e]; exact h2 k (by omega)
theorem MkF.cell {w : World} {base n q g cap k : Nat} (h : MkF w base (.slice (some ⟨g, 0, none⟩) n cap) n q) (hk : k < q) (hq : q ≤ n * 65) : w.cell? ⟨g, k, none⟩ = Option.some (mkF k) := by
 obtain ⟨ys, h1, h2⟩ := h
 rw [h1.cellAt k (by omega)]
 exact h2 k hk
theorem MkF.same {w : World} {base n q : Nat} {v : Value} (h : MkF w base v n q) (r : Nat) (e : r = q) : MkF w base v n r := e ▸ h
attribute [local irreducible] mkF MkF
end Go.Proofs.Ytobcdekochenfaa
namespace Go.Proofs.Ytobcdekochenfaa
open Go Go.RowKit
set_option linter.unusedVariables false
set_option linter.unusedSimpArgs false
/-- the mark of a cell -/
def mkW (q : Nat) : Value := .int .u8 ((1 + (q : Int)) % 256)
/-- the first q cells of a slice are marked -/
def MkP (w : World) (base : Nat) (v : Value) (n q : Nat) : Prop := ∃ ys, w.ownsRow base 23 64 v n ys ∧ ∀ k, k < q → ys[k]? = some (mkW k)
theorem MkP.own {w : World} {base n q : Nat} {v : Value} (h : MkP w base v n q) : ∀ r, v.ownBlock = Option.some r → base ≤ r ∧ r < w.heap.size := by
 obtain ⟨ys, h1, _⟩ := h
 exact fun r hr => h1.lt r hr
theorem MkP.grown {w w' : World} {base n q : Nat} {v : Value} {row : Option Nat} (h : MkP w base v n q) (hg : w.grownBy w' row) (hr : v.ownBlock = none ∨ v.ownBlock ≠ row) : MkP w' base v n q := by
 obtain ⟨ys, h1, h2⟩ := h
 exact ⟨ys, h1.kept hg hr, h2⟩
theorem MkP.below {w w' : World} {base n q : Nat} {v : Value} (h : MkP w base v n q) (hb : Below w.heap.size w w') : MkP w' base v n q :=
 h.grown (row := none) ⟨hb.os, hb.tape, hb.output, hb.size, fun k hk _ => hb.block k hk⟩ (by
  cases hv : v.ownBlock with
  | none => exact .inl rfl
  | some k => exact .inr (by simp))
theorem MkP.step {w : World} {base n q g cap : Nat} (h : MkP w base (.slice (some ⟨g, 0, none⟩) n cap) n q) (hq : q < n * 64) :
 (∃ u, w.cell? ⟨g, q, none⟩ = Option.some u) ∧ w.frozen? ⟨g, q, none⟩ = false ∧ MkP (w.setCell ⟨g, q, none⟩ (mkW q)) base (.slice (some ⟨g, 0, none⟩) n cap) n (q + 1) ∧ w.grownBy (w.setCell ⟨g, q, none⟩ (mkW q)) (Option.some g) := by
 obtain ⟨ys, h1, h2⟩ := h
 have hl : q < ys.length := by rw [h1.1]; exact hq
 obtain ⟨s1, s2⟩ := h1.stored q (mkW q)
 refine ⟨⟨ys[q], by rw [h1.cellAt q hq]; exact List.getElem?_eq_getElem hl⟩, h1.frozenAt q, ⟨_, s1, fun k hk => ?_⟩, s2⟩
 rw [List.getElem?_set]
 by_cases e : q = k
 · subst e; rw [if_pos rfl, if_pos hl]
 · rw [if_neg e]; exact h2 k (by omega)
theorem MkP.cell {w : World} {base n q g cap k : Nat} (h : MkP w base (.slice (some ⟨g, 0, none⟩) n cap) n q) (hk : k < q) (hq : q ≤ n * 64) : w.cell? ⟨g, k, none⟩ = Option.some (mkW k) := by
 obtain ⟨ys, h1, h2⟩ := h
 rw [h1.cellAt k (by omega)]
 exact h2 k hk
theorem MkP.same {w : World} {base n q : Nat} {v : Value} (h : MkP w base v n q) (r : Nat) (e : r = q) : MkP w base v n r := e ▸ h
attribute [local irreducible] mkW MkP
end Go.Proofs.Ytobcdekochenfaa
end
section
namespace Go.Proofs.Ytobcdekochenfaa
open Go Go.RowKit
set_option linter.unusedVariables false
set_option linter.unusedSimpArgs false
theorem Try.elemInt : (Try.prog.info? 2).map (fun i => (i.size, i.zero.isSome)) = some (1, true) := by kernel_rfl
theorem wpList_buildI {P : Program} {ops : Array Oper} {rest : List Oper} {o : Oper} {a : Act} {w : World} {Q : Exit → Act → World → Prop} (hg : o.guard = none) (t : TypeId) (parts : Array (Nat × Operand)) (x : Int)
 (ho : o.op = .buildSlice t 1 parts) (e : TypeId) (hu : P.underlying t = some (.slice e)) (hie : (P.info? e).map (fun i => (i.size, i.zero.isSome)) = some (1, true))
 (hp : (parts.toList.map fun x => (x.1, a.eval x.2)) = [(0, Value.int .i64 x)])
 (h : ∀ w', Row w' w.heap.size e #[.int .i64 x] → Below w.heap.size w w' → wpList P ops Q rest (a.put o.dst (.slice (some ⟨w.heap.size, 0, none⟩) 1 1)) w') : wpList P ops Q (o :: rest) a w := by
 cases hi : P.info? e with
 | none => simp [hi] at hie
 | some ie =>
  simp only [hi, Option.map_some, Option.some.injEq, Prod.mk.injEq] at hie
  obtain ⟨hs, hz⟩ := hie
  obtain ⟨z, hzz⟩ := Option.isSome_iff_exists.1 hz
  refine wpList_buildSlice hg t e 1 parts ho _ ie z hu hi hzz (by rw [hs]; omega) (by rw [hs]; omega) ?_ (h _ (Row.new w e #[.int .i64 x]) (zal _ _))
  rw [Array.toList_map, hp, hs]
  obtain ⟨old, hold⟩ : ∃ old, old = (Array.range (1 * 1)).map (z.cells[· % z.cells.size]!) := ⟨_, rfl⟩
  have hsz : old.size = 1 := by rw [hold]; simp
  rw [← hold]
  obtain ⟨l⟩ := old
  match l, hsz with
  | [u], _ => simp [Instr.fill, Value.cells]
/-- the mark of a cell -/
def mkI (q : Nat) : Value := .int .i64 (1 + (q : Int))
/-- the first q cells of a slice are marked -/
def MkI (w : World) (base : Nat) (v : Value) (n q : Nat) : Prop := ∃ ys, w.ownsRow base 2 1 v n ys ∧ ∀ k, k < q → ys[k]? = some (mkI k)
theorem MkI.own {w : World} {base n q : Nat} {v : Value} (h : MkI w base v n q) : ∀ r, v.ownBlock = Option.some r → base ≤ r ∧ r < w.heap.size := by
 obtain ⟨ys, h1, _⟩ := h
 exact fun r hr => h1.lt r hr
theorem MkI.grown {w w' : World} {base n q : Nat} {v : Value} {row : Option Nat} (h : MkI w base v n q) (hg : w.grownBy w' row) (hr : v.ownBlock = none ∨ v.ownBlock ≠ row) : MkI w' base v n q := by
 obtain ⟨ys, h1, h2⟩ := h
 exact ⟨ys, h1.kept hg hr, h2⟩
theorem MkI.below {w w' : World} {base n q : Nat} {v : Value} (h : MkI w base v n q) (hb : Below w.heap.size w w') : MkI w' base v n q :=
 h.grown (row := none) ⟨hb.os, hb.tape, hb.output, hb.size, fun k hk _ => hb.block k hk⟩ (by
  cases hv : v.ownBlock with
  | none => exact .inl rfl
  | some k => exact .inr (by simp))
theorem MkI.step {w : World} {base n q g cap : Nat} (h : MkI w base (.slice (some ⟨g, 0, none⟩) n cap) n q) (hq : q < n * 1) :
 (∃ u, w.cell? ⟨g, q, none⟩ = Option.some u) ∧ w.frozen? ⟨g, q, none⟩ = false ∧ MkI (w.setCell ⟨g, q, none⟩ (mkI q)) base (.slice (some ⟨g, 0, none⟩) n cap) n (q + 1) ∧ w.grownBy (w.setCell ⟨g, q, none⟩ (mkI q)) (Option.some g) := by
 obtain ⟨ys, h1, h2⟩ := h
 have hl : q < ys.length := by rw [h1.1]; exact hq
 obtain ⟨s1, s2⟩ := h1.stored q (mkI q)
 refine ⟨⟨ys[q], by rw [h1.cellAt q hq]; exact List.getElem?_eq_getElem hl⟩, h1.frozenAt q, ⟨_, s1, fun k hk => ?_⟩, s2⟩
 rw [List.getElem?_set]
 by_cases e : q = k
 · subst e; rw [if_pos rfl, if_pos hl]
 · rw [if_neg e]; exact h2 k (by omega)
theorem MkI.cell {w : World} {base n q g cap k : Nat} (h : MkI w base (.slice (some ⟨g, 0, none⟩) n cap) n q) (hk : k < q) (hq : q ≤ n * 1) : w.cell? ⟨g, k, none⟩ = Option.some (mkI k) := by
 obtain ⟨ys, h1, h2⟩ := h
 rw [h1.cellAt k (by omega)]
 exact h2 k hk
theorem MkI.same {w : World} {base n q : Nat} {v : Value} (h : MkI w base v n q) (r : Nat) (e : r = q) : MkI w base v n r := e ▸ h
attribute [local irreducible] mkI MkI
end Go.Proofs.Ytobcdekochenfaa
end
section
namespace Go.Proofs.Ytobcdekochenfaa
open Go Go.RowKit
set_option linter.unusedVariables false
set_option linter.unusedSimpArgs false
theorem row_one {w : World} {b : Nat} {t : TypeId} {v : Value} (h : Row w b t #[v]) : One w b t v := by unfold One; unfold Row at h; exact h
/-- are there sums of this degree -/
def sdB (p d : Int) : Bool := decide (0 ≤ d ∧ d ≤ 8 ∧ p.toNat ^ d.toNat ≤ 343)
theorem sdB_nat {p d : Nat} : sdB (p : Int) (d : Int) = decide (d ≤ 8 ∧ p ^ d ≤ 343) := by
 unfold sdB; rw [Int.toNat_natCast, Int.toNat_natCast]; simp only [decide_eq_decide]; omega
theorem sdB_yes {p : Nat} {d : Int} (h : sdB (p : Int) d = true) : ∃ n : Nat, d = (n : Int) ∧ n ≤ 8 ∧ p ^ n ≤ 343 := by
 have h2 := of_decide_eq_true h
 refine ⟨d.toNat, by omega, by omega, ?_⟩
 have := h2.2.2; rwa [Int.toNat_natCast] at this
theorem sdB_neg {p d : Int} (h : ¬ (0 ≤ d ∧ d ≤ 8)) : sdB p d = false := by
 unfold sdB; rw [decide_eq_false_iff_not]; exact fun h2 => h ⟨h2.1, h2.2.1⟩
def xpB (k : Int) : Bool := decide (0 ≤ k ∧ k ≤ 40)
theorem xpB_yes {k : Int} (h : xpB k = true) : ∃ n : Nat, k = (n : Int) ∧ n ≤ 40 := by
 have h2 := of_decide_eq_true h
 exact ⟨k.toNat, by omega, by omega⟩
set_option maxRecDepth 100000 in
set_option maxHeartbeats 3200000 in
theorem isExponent_any (k : Int) (w : World) : Calls Try.prog 68 #[.int .i64 k] w fun e w' => e = .returned (.bool (xpB k)) ∧ w = w' := by
 go_enter Try.func68, Try.ntmps68
 by_cases h1 : 0 ≤ k
 · by_cases h2 : k ≤ 40
   · have HV := Lib.hid (show xpB k = true by unfold xpB; rw [decide_eq_true_eq]; exact ⟨h1, h2⟩)
     go_wp2_with fail
     go_ret
     exact ⟨by rw [HV.out]; rfl, rfl⟩
   · have HV := Lib.hid (show xpB k = false by unfold xpB; rw [decide_eq_false_iff_not]; omega)
     have h3 : 40 < k := by omega
     go_wp2_with fail
     go_ret
     exact ⟨by rw [HV.out]; rfl, rfl⟩
 · have HV := Lib.hid (show xpB k = false by unfold xpB; rw [decide_eq_false_iff_not]; omega)
   have h3 : k < 0 := by omega
   go_wp2_with fail
   go_ret
   exact ⟨by rw [HV.out]; rfl, rfl⟩
set_option maxRecDepth 100000 in
set_option maxHeartbeats 3200000 in
theorem isSummed_any (p : Nat) (d : Int) (w : World) (p2 : 2 ≤ p) (p7 : p ≤ 7) : Calls Try.prog 67 #[.int .i64 (p : Int), .int .i64 d] w fun e w' => e = .returned (.bool (sdB (p : Int) d)) ∧ w = w' := by
 by_cases h1 : 0 ≤ d
 · by_cases h2 : d ≤ 8
   · obtain ⟨n, rfl⟩ : ∃ n : Nat, d = (n : Int) := ⟨d.toNat, by omega⟩
     have HN := Lib.hid (fun W => norm_any p n W p2 p7 (by omega))
     have HS := Lib.hid (sdB_nat (p := p) (d := n))
     obtain ⟨q, hq⟩ : ∃ q, q = p ^ n := ⟨_, rfl⟩
     rw [← hq] at HN HS
     clear hq
     by_cases h3 : q ≤ 343
     · have HV := Lib.hid (show sdB (p : Int) (n : Int) = true by rw [HS.out, decide_eq_true_eq]; omega)
       have h4 : (q : Int) ≤ 343 := by omega
       go_enter Try.func67, Try.ntmps67
       go_wp2_with (go_at_call 135; refine (HN.out _).mono ?_; rintro e wS ⟨rfl, rfl⟩)
       go_ret
       exact ⟨by rw [HV.out]; rfl, rfl⟩
     · have HV := Lib.hid (show sdB (p : Int) (n : Int) = false by rw [HS.out, decide_eq_false_iff_not]; omega)
       have h4 : ¬ (q : Int) ≤ 343 := by omega
       have h5 : 343 < (q : Int) := by omega
       go_enter Try.func67, Try.ntmps67
       go_wp2_with (go_at_call 135; refine (HN.out _).mono ?_; rintro e wS ⟨rfl, rfl⟩)
       go_ret
       exact ⟨by rw [HV.out]; exact congrArg (fun b => Ending.returned (.bool b)) (decide_eq_false (by omega)), rfl⟩
   · have HV := Lib.hid (sdB_neg (p := (p : Int)) (d := d) (by omega))
     have h3 : 8 < d := by omega
     go_enter Try.func67, Try.ntmps67
     go_wp2_with fail
     go_ret
     exact ⟨by rw [HV.out]; rfl, rfl⟩
 · have HV := Lib.hid (sdB_neg (p := (p : Int)) (d := d) (by omega))
   have h3 : d < 0 := by omega
   go_enter Try.func67, Try.ntmps67
   go_wp2_with fail
   go_ret
   exact ⟨by rw [HV.out]; rfl, rfl⟩
/-- the code of a prime, a degree, and a power -/
def cdW (p d k : Int) : Int := if okP p = true then (if sdB p d = true ∧ xpB k = true then 0 else 2) else 1
theorem cdW_1 {p d k : Int} (h : okP p = false) : cdW p d k = 1 := by unfold cdW; rw [if_neg (by rw [h]; decide)]
theorem cdW_2 {p d k : Int} (h : okP p = true) (h2 : ¬ (sdB p d = true ∧ xpB k = true)) : cdW p d k = 2 := by unfold cdW; rw [if_pos h, if_neg h2]
theorem cdW_0 {p d k : Int} (h : okP p = true) (h2 : sdB p d = true) (h3 : xpB k = true) : cdW p d k = 0 := by unfold cdW; rw [if_pos h, if_pos ⟨h2, h3⟩]
set_option maxRecDepth 100000 in
set_option maxHeartbeats 3200000 in
theorem l08Code_one (p d : Int) (k : Int) (b : Nat) (w : World) (B : One w b 2 (.int .i64 k)) : Calls Try.prog 64 #[.int .i64 p, .int .i64 d, .slice (some ⟨b, 0, none⟩) 1 1] w fun e w' => e = .returned (.int .i64 (cdW p d k)) ∧ w = w' := by
 have cc := B.cell
 cases hp : okP p with
 | false =>
  have HP := Lib.hid hp
  have HV := Lib.hid (cdW_1 (d := d) (k := k) hp)
  clear hp
  go_enter Try.func64, Try.ntmps64
  go_wp2_with (first | (go_at_call 134; refine (l01Prime_any p _).mono ?_; rintro e wS ⟨rfl, rfl⟩; rw [show okP p = false from HP.out]))
  go_ret
  exact ⟨by rw [HV.out]; rfl, rfl⟩
 | true =>
  have HP := Lib.hid hp
  by_cases h18 : 0 ≤ d ∧ d ≤ 8
  · obtain ⟨p, rfl, p2, p7⟩ := okP_nat hp
    clear hp
    obtain ⟨n, rfl⟩ : ∃ n : Nat, d = (n : Int) := ⟨d.toNat, by omega⟩
    have HC := Lib.hid (fun W => l01Count_any p n W p2 p7 (by omega))
    have HS := Lib.hid (sdB_nat (p := p) (d := n))
    obtain ⟨q, hq⟩ : ∃ q, q = p ^ n := ⟨_, rfl⟩
    rw [← hq] at HC HS
    clear hq
    by_cases h3 : q ≤ 343
    · have HSD := Lib.hid (show sdB (p : Int) (n : Int) = true by rw [HS.out, decide_eq_true_eq]; omega)
      have h4 : ¬ (q : Int) > 343 := by omega
      have h5 : ¬ 343 < (q : Int) := by omega
      go_enter Try.func64, Try.ntmps64
      go_wp2_with (first | (go_at_call 134; refine (l01Prime_any (p : Int) _).mono ?_; rintro e wS ⟨rfl, rfl⟩; rw [show okP (p : Int) = true from HP.out]) | (go_at_call 85; refine (l01In_yes (n : Int) 0 8 (by omega) _).mono ?_; rintro e wS ⟨rfl, rfl⟩) | (go_at_call 75; refine (HC.out _).mono ?_; rintro e wS ⟨rfl, rfl⟩))
      cases hx : xpB k with
      | true =>
       have HV := Lib.hid (show cdW (p : Int) (n : Int) k = 0 from cdW_0 HP.out HSD.out hx)
       have hx1 : 0 ≤ k ∧ k ≤ 40 := of_decide_eq_true hx
       go_loopw [7] (fun i wr => ∃ j : Nat, j ≤ 1 ∧ i = .int .i64 (j : Int) ∧ wr = w) (fun i _ => 1 - (intOf i).toNat)
       case atStart => exact ⟨0, by omega, rfl, rfl⟩
       case round =>
        obtain ⟨j, hj, rfl, rfl⟩ := hrel
        by_cases hj0 : j = 0
        · subst hj0
          go_wp2_with (first | (go_at_call 85; refine (l01In_yes k 0 40 (by omega) _).mono ?_; rintro e wS ⟨rfl, rfl⟩))
          go_roundw
          case rel => exact ⟨1, by omega, by go_num, trivial⟩
          case measure => simp [intOf]
        · obtain rfl : j = 1 := by omega
          go_wp2_with fail
          go_ret
          exact ⟨by rw [HV.out]; rfl, rfl⟩
      | false =>
       have HV := Lib.hid (show cdW (p : Int) (n : Int) k = 2 from cdW_2 HP.out (by rw [hx]; simp))
       have hx1 : ¬ (0 ≤ k ∧ k ≤ 40) := of_decide_eq_false hx
       go_loopw [7] (fun i wr => i = .int .i64 ((0 : Nat) : Int) ∧ wr = w) (fun _ _ => 0)
       case atStart => exact ⟨rfl, rfl⟩
       case round =>
        obtain ⟨rfl, rfl⟩ := hrel
        go_wp2_with (first | (go_at_call 85; refine (l01In_no k 0 40 (by omega) _).mono ?_; rintro e wS ⟨rfl, rfl⟩))
        go_ret
        exact ⟨by rw [HV.out]; rfl, rfl⟩
    · have HSD := Lib.hid (show sdB (p : Int) (n : Int) = false by rw [HS.out, decide_eq_false_iff_not]; omega)
      have HV := Lib.hid (show cdW (p : Int) (n : Int) k = 2 from cdW_2 HP.out (by rw [HSD.out]; simp))
      have h4 : (q : Int) > 343 := by omega
      have h5 : 343 < (q : Int) := by omega
      go_enter Try.func64, Try.ntmps64
      go_wp2_with (first | (go_at_call 134; refine (l01Prime_any (p : Int) _).mono ?_; rintro e wS ⟨rfl, rfl⟩; rw [show okP (p : Int) = true from HP.out]) | (go_at_call 85; refine (l01In_yes (n : Int) 0 8 (by omega) _).mono ?_; rintro e wS ⟨rfl, rfl⟩) | (go_at_call 75; refine (HC.out _).mono ?_; rintro e wS ⟨rfl, rfl⟩))
      go_ret
      exact ⟨by rw [HV.out]; rfl, rfl⟩
  · have HV := Lib.hid (cdW_2 (k := k) hp (d := d) (by rw [sdB_neg h18]; simp))
    clear hp
    go_enter Try.func64, Try.ntmps64
    go_wp2_with (first | (go_at_call 134; refine (l01Prime_any p _).mono ?_; rintro e wS ⟨rfl, rfl⟩; rw [show okP p = true from HP.out]) | (go_at_call 85; refine (l01In_no d 0 8 (by omega) _).mono ?_; rintro e wS ⟨rfl, rfl⟩))
    go_ret
    exact ⟨by rw [HV.out]; rfl, rfl⟩
/-- the model's power sum, and whether it is there -/
def psV (p d k : Nat) : (Nat → Nat) × Bool := if d * k ≤ 63 then (pwT p d k, true) else (fun _ => 0, false)
set_option maxRecDepth 100000 in
set_option maxHeartbeats 3200000 in
theorem l08Sum_any (p d k : Nat) (w : World) (p2 : 2 ≤ p) (p7 : p ≤ 7) (hd : d ≤ 8) (hk : k ≤ 40) (hq3 : p ^ d ≤ 343) :
 Calls Try.prog 65 #[.int .i64 (p : Int), .int .i64 (d : Int), .int .i64 (k : Int)] w fun e w' => e = .returned (.tuple #[.agg (zb 64 (psV p d k).1), .bool (psV p d k).2]) ∧ Below w.heap.size w w' := by
 have mb0 : (0 : Int) ≤ (d : Int) * (k : Int) := Int.mul_nonneg (by omega) (by omega)
 have mb1 : (d : Int) * (k : Int) ≤ 320 := by
  have := Nat.mul_le_mul hd hk
  have e : ((d * k : Nat) : Int) = (d : Int) * (k : Int) := by push_cast; rfl
  omega
 go_enter Try.func65, Try.ntmps65
 go_upto_region 1 with (fail)
 rw [← z64]
 obtain ⟨W1, hwo⟩ : ∃ v : World, v = (w.alloc (.cells (zb 64 (fun _ => 0)) 23)) := ⟨_, rfl⟩
 have B0 : Blk W1 (w.heap.size) 64 23 (fun _ => 0) := by subst hwo; have := (Blk.new w 64 23 (fun _ => 0)); simpa using this
 have hb : Below w.heap.size w W1 := by subst hwo; exact ((Below.refl _ _).alloc (Nat.le_refl _) _)
 rw [← hwo]
 clear hwo
 have lt_B0 := B0.lt
 go_upto_region 2 with (first | rw [← z64] | (refine wpList_store_blk rfl 23 (.tmp 8) (.tmp 12) rfl _ 64 (fun _ => 0) rfl rfl 23 _ ((Blk.new W1 64 23 (fun _ => 0))) Try.size23 ?_; try simp only [Act.put]))
 have lt_B0 := B0.lt
 have lhb := hb.size
 obtain ⟨W2, hwo, hzQ⟩ : ∃ v : World, v = ((W1.alloc (.cells (zb 64 (fun _ => 0)) 23)).setRow (W1.heap.size) (zb 64 (fun _ => 0))) ∧ Blk v (w.heap.size) 64 23 (fun _ => 0) ∧ Blk v (W1.heap.size) 64 23 (fun _ => 0) ∧ Below w.heap.size w v := ⟨_, rfl, ((B0.alloc (.cells (zb 64 (fun _ => 0)) 23)).rowOther (by omega)), ((Blk.new W1 64 23 (fun _ => 0)).row (fun _ => 0)), (zr (hb.alloc (by have := hb.size; simp; omega) (.cells (zb 64 (fun _ => 0)) 23)) (by omega) _)⟩
 rw [← hwo]
 clear hwo B0 hb
 obtain ⟨B0, B1, hb⟩ := hzQ
 obtain ⟨N1, hNN⟩ : ∃ n : Nat, n = W1.heap.size := ⟨_, rfl⟩
 rw [← hNN] at lt_B0 lhb B1 ⊢
 clear hNN
 have zN1_0 := lt_B0
 have zN1 := lhb
 clear lt_B0 lhb
 try simp only [Act.put, pA, pB, pC]
 by_cases hlim : (d : Int) * (k : Int) ≤ 63
 · have hdk : d * k ≤ 63 := by exact_mod_cast hlim
   have HV := Lib.hid (show psV p d k = (pwT p d k, true) from if_pos hdk)
   have h2 : ¬ 63 < (d : Int) * (k : Int) := by omega
   obtain ⟨Q, hQ⟩ : ∃ Q, Q = p ^ d := ⟨_, rfl⟩
   have HC := Lib.hid (fun W => l01Count_any p d W p2 p7 (by omega))
   have HP0 := Lib.hid (show pwT p d k = smS p oneP (fun _ => 0) k (List.range' Q Q) by rw [hQ]; rfl)
   rw [← hQ] at HC hq3
   have HMM := Lib.hid (show ∀ j, j < Q → Q + j ∈ monL p d from fun j hj => by rw [monL, List.mem_range'_1, ← hQ]; omega)
   have HEC := Lib.hid (fun N => exP_congr (p := p) (f := bsS p oneP (fun _ => 0) N) (g := ofN p N) (bsS_one p2) k)
   have H2Q := Lib.hid (show (2 : Int) * (Q : Int) = ((Q + Q : Nat) : Int) by omega)
   clear hlim hQ
   go_upto_region 4 with (fail)
   go_wp2_with (first | (go_at_call 75; refine (HC.out _).mono ?_; rintro e wS ⟨rfl, rfl⟩))
   go_loopw [9] (fun i wr => ∃ j : Nat, j ≤ Q ∧ i = .int .i64 ((Q + j : Nat) : Int) ∧ Below w.heap.size w wr ∧ Blk wr (w.heap.size) 64 23 (fun _ => 0) ∧ Blk wr (N1) 64 23 (smS p oneP (fun _ => 0) k (List.range' Q j))) (fun i _ => Q + Q - (intOf i).toNat)
   case atStart => exact ⟨0, Nat.zero_le _, by rw [Nat.add_zero], hb, B0, by rw [show List.range' Q 0 = [] from rfl, smS_nil]; exact B1⟩
   case round =>
    clear hb B0 B1
    obtain ⟨j, hj, rfl, hb, B0, B1⟩ := hrel
    by_cases hjQ : j < Q
    · obtain ⟨N, hN⟩ : ∃ N, N = Q + j := ⟨_, rfl⟩
      have hNm := HMM.out j hjQ
      have hSN := smS_snoc p oneP (fun _ => 0) k (List.range' Q j) (Q + j)
      have hRS := range_snoc Q j
      rw [← hN] at hNm hSN hRS ⊢
      have hNi : (N : Int) < (2 : Int) * (Q : Int) := by omega
      have hOF := fun W => l01Of_any p N W p2 p7 (by omega)
      have hdg : deg (ofN p N) = (d : Int) := (mon_ofN p2 (by omega) hNm).1
      have hPW := fun W => l08Power_any p d k (ofN p N) W p2 p7 (fun i _ => ofN_lt (by omega) N i) hdg hdk hk
      have hSA := fun W => smL_any p k N oneP (fun _ => 0) (List.range' Q j) W p2 p7 (by rw [HEC.out]; exact exB_lt p d k (ofN p N) p2 hdg hdk)
      rw [HEC.out N, ← hRS] at hSA
      have HOF := Lib.hid hOF
      have HPW := Lib.hid hPW
      have HSA := Lib.hid hSA
      have HN := Lib.hid hN
      clear hNm hSN hRS hOF hdg hPW hSA hN
      go_upto_region 7 with (first | (go_at_call 75; refine (HC.out _).mono ?_; rintro e wS ⟨rfl, rfl⟩; try rw [H2Q.out]))
      have lt_B0 := B0.lt
      have lt_B1 := B1.lt
      go_upto_region 8 with (first | rw [← z64] | (go_at_call 77; refine (HOF.out _).mono ?_; rintro e W3 ⟨rfl, hW3⟩; replace B0 := B0.zw hW3; replace B1 := B1.zw hW3; replace hb := (hb).trans (hW3.mono (hb).size)) | (go_at_call 78; refine (HPW.out _).mono ?_; rintro e W4 ⟨rfl, hW4⟩; replace B0 := B0.zw hW4; replace B1 := B1.zw hW4; replace hb := (hb).trans (hW4.mono (hb).size)) | (refine wpList_store_blk rfl 23 (.tmp 10) (.tmp 36) rfl _ 64 (exP p (ofN p N) k) rfl rfl 23 _ ((Blk.new W4 64 23 (fun _ => 0))) Try.size23 ?_; try simp only [Act.put]; go_upto_region 8 with (fail)))
      have lt_B0 := B0.lt
      have lt_B1 := B1.lt
      have lhb := hb.size
      obtain ⟨W5, hwo, hzQ⟩ : ∃ v : World, v = ((W4.alloc (.cells (zb 64 (fun _ => 0)) 23)).setRow (W4.heap.size) (zb 64 (exP p (ofN p N) k))) ∧ Blk v (w.heap.size) 64 23 (fun _ => 0) ∧ Blk v (N1) 64 23 (smS p oneP (fun _ => 0) k (List.range' Q j)) ∧ Blk v (W4.heap.size) 64 23 (exP p (ofN p N) k) ∧ Below w.heap.size w v := ⟨_, rfl, ((B0.alloc (.cells (zb 64 (fun _ => 0)) 23)).rowOther (by omega)), ((B1.alloc (.cells (zb 64 (fun _ => 0)) 23)).rowOther (by omega)), ((Blk.new W4 64 23 (fun _ => 0)).row (exP p (ofN p N) k)), (zr (hb.alloc (by have := hb.size; simp; omega) (.cells (zb 64 (fun _ => 0)) 23)) (by omega) _)⟩
      rw [← hwo]
      clear hwo B0 B1 hb
      obtain ⟨B0, B1, B2, hb⟩ := hzQ
      obtain ⟨N2, hNN⟩ : ∃ n : Nat, n = W4.heap.size := ⟨_, rfl⟩
      rw [← hNN] at lt_B0 lt_B1 lhb B2 ⊢
      clear hNN
      have zN2_0 := lt_B0
      have zN2_1 := lt_B1
      have zN2 := lhb
      clear lt_B0 lt_B1 lhb
      try simp only [Act.put, pA, pB, pC]
      have lt_B0 := B0.lt
      have lt_B1 := B1.lt
      have lt_B2 := B2.lt
      go_upto_region 6 with (first | rw [← z64] | (refine zla (.tmp 8) B1 Try.underlying23 Try.size23 ?_) | (refine zla (.tmp 10) B2 Try.underlying23 Try.size23 ?_) | (go_at_call 79; refine (HSA.out _).mono ?_; rintro e W6 ⟨rfl, hW6⟩; replace B0 := B0.zw hW6; replace B1 := B1.zw hW6; replace B2 := B2.zw hW6; replace hb := (hb).trans (hW6.mono (hb).size)) | (refine zsr (.tmp 8) (.tmp 41) (smS p oneP (fun _ => 0) k (List.range' Q (j + 1))) B1 Try.size23 ?_; try simp only [Act.put]))
      obtain ⟨W7, hwo, hzQ⟩ : ∃ v : World, v = (W6.setRow (N1) (zb 64 (smS p oneP (fun _ => 0) k (List.range' Q (j + 1))))) ∧ Blk v (w.heap.size) 64 23 (fun _ => 0) ∧ Blk v (N1) 64 23 (smS p oneP (fun _ => 0) k (List.range' Q (j + 1))) ∧ Blk v (N2) 64 23 (exP p (ofN p N) k) ∧ Below w.heap.size w v := ⟨_, rfl, (B0.rowOther (by omega)), (B1.row (smS p oneP (fun _ => 0) k (List.range' Q (j + 1)))), (B2.rowOther (by omega)), (zr hb (by omega) _)⟩
      rw [← hwo]
      clear hwo B0 B1 B2 hb
      obtain ⟨B0, B1, B2, hb⟩ := hzQ
      try simp only [Act.put, pA, pB, pC]
      go_wp2_with fail
      go_roundw
      case rel => exact ⟨j + 1, by omega, by rw [HN.out]; go_num, hb, B0, B1⟩
      case measure => simp [intOf] <;> omega
    · obtain rfl : j = Q := by omega
      rw [← HP0.out] at B1
      have hNi : ¬ ((j + j : Nat) : Int) < (2 : Int) * (j : Int) := by omega
      go_upto_region 9 with (first | (go_at_call 75; refine (HC.out _).mono ?_; rintro e wS ⟨rfl, rfl⟩))
      have lt_B0 := B0.lt
      have lt_B1 := B1.lt
      go_wp2_with (first | rw [← z64] | (refine zla (.tmp 8) B1 Try.underlying23 Try.size23 ?_) | (refine zsr (.tmp 6) (.tmp 42) (pwT p d k) B0 Try.size23 ?_; try simp only [Act.put]; go_wp2_with fail))
      obtain ⟨W3, hwo, hzQ⟩ : ∃ v : World, v = (wr.setRow (w.heap.size) (zb 64 (pwT p d k))) ∧ Blk v (w.heap.size) 64 23 (pwT p d k) ∧ Blk v (N1) 64 23 (pwT p d k) ∧ Below w.heap.size w v := ⟨_, rfl, (B0.row (pwT p d k)), (B1.rowOther (by omega)), (zr hb (by omega) _)⟩
      rw [← hwo]
      clear hwo B0 B1 hb
      obtain ⟨B0, B1, hb⟩ := hzQ
      try simp only [Act.put, pA, pB, pC]
      refine bodyPost_ret (results_bt rfl _ _ _ 64 23 5 _ rfl B0 Try.underlying23 Try.size23) rfl ⟨by first | (rw [HV.out]; rfl) | rw [HV.out], hb⟩
 · have HV := Lib.hid (show psV p d k = (fun _ => 0, false) from if_neg (fun h => hlim (by exact_mod_cast h)))
   have h2 : 63 < (d : Int) * (k : Int) := by omega
   clear hlim
   go_upto_region 3 with (fail)
   have lt_B0 := B0.lt
   have lt_B1 := B1.lt
   go_wp2_with (first | rw [← z64] | (refine zla (.tmp 8) B1 Try.underlying23 Try.size23 ?_) | (refine zsr (.tmp 6) (.tmp 17) (fun _ => 0) B0 Try.size23 ?_; try simp only [Act.put]; go_wp2_with fail))
   obtain ⟨W3, hwo, hzQ⟩ : ∃ v : World, v = (W2.setRow (w.heap.size) (zb 64 (fun _ => 0))) ∧ Blk v (w.heap.size) 64 23 (fun _ => 0) ∧ Blk v (N1) 64 23 (fun _ => 0) ∧ Below w.heap.size w v := ⟨_, rfl, (B0.row (fun _ => 0)), (B1.rowOther (by omega)), (zr hb (by omega) _)⟩
   rw [← hwo]
   clear hwo B0 B1 hb
   obtain ⟨B0, B1, hb⟩ := hzQ
   try simp only [Act.put, pA, pB, pC]
   refine bodyPost_ret (results_bt rfl _ _ _ 64 23 5 _ rfl B0 Try.underlying23 Try.size23) rfl ⟨by first | (rw [HV.out]; rfl) | rw [HV.out], hb⟩
/-- both answers -/
def pqW (p d k : Int) : (Nat → Nat) × Int := if cdW p d k = 0 then (if d * k ≤ 63 then (pwT p.toNat d.toNat k.toNat, 0) else (fun _ => 0, 3)) else (fun _ => 0, cdW p d k)
theorem pqW_c {p d k c : Int} (h : cdW p d k = c) (h0 : c ≠ 0) : pqW p d k = (fun _ => 0, c) := by unfold pqW; rw [h, if_neg h0]
theorem pqW_3 {p d k : Int} (h : cdW p d k = 0) (h2 : ¬ d * k ≤ 63) : pqW p d k = (fun _ => 0, 3) := by unfold pqW; rw [if_pos h, if_neg h2]
theorem pqW_0 {p d k : Nat} (h : cdW (p : Int) (d : Int) (k : Int) = 0) (h2 : (d : Int) * (k : Int) ≤ 63) : pqW (p : Int) (d : Int) (k : Int) = (pwT p d k, 0) := by
 unfold pqW; rw [if_pos h, if_pos h2, Int.toNat_natCast, Int.toNat_natCast, Int.toNat_natCast]
theorem cdW_cases {p d k : Int} : (∃ c, cdW p d k = c ∧ c ≠ 0 ∧ (c = 1 ∨ c = 2)) ∨ (cdW p d k = 0 ∧ okP p = true ∧ sdB p d = true ∧ xpB k = true) := by
 unfold cdW
 by_cases h : okP p = true
 · by_cases h2 : sdB p d = true ∧ xpB k = true
   · right; rw [if_pos h, if_pos h2]; exact ⟨rfl, h, h2.1, h2.2⟩
   · left; rw [if_pos h, if_neg h2]; exact ⟨2, rfl, by omega, .inr rfl⟩
 · left; rw [if_neg h]; exact ⟨1, rfl, by omega, .inl rfl⟩
attribute [local irreducible] pwT cdW pqW psV sdB xpB
set_option maxRecDepth 100000 in
set_option maxHeartbeats 3200000 in
theorem powerSum_any (p d k : Nat) (w : World) (hpr : p = 2 ∨ p = 3 ∨ p = 5 ∨ p = 7) (hd : d ≤ 8) (hk : k ≤ 40) (hdk : d * k ≤ 63) :
 Calls Try.prog 69 #[.int .i64 (p : Int), .int .i64 (d : Int), .int .i64 (k : Int)] w fun e w' => e = .returned (.agg (zb 64 (pwT p d k))) ∧ Below w.heap.size w w' := by
 have HSP := Lib.hid (show ∀ W, Calls Try.prog 83 #[.int .i64 (p : Int), .int .i64 (d : Int), .int .i64 (k : Int), .agg (zb 64 oneP), .agg (zb 64 (fun _ => 0))] W fun e w' => e = .returned (.agg (zb 64 (pwT p d k))) ∧ Below W.heap.size W w' from fun W => by
  have h := sumOfPowers_any p d k oneP (fun _ => 0) W hpr (fun i _ => by unfold oneP; split <;> omega) (fun i _ => by omega) hd hk (fun N hN => ⟨d, bsS_deg1 (by omega) (by omega) hN, hdk⟩)
  unfold pwT
  exact h)
 go_enter Try.func69, Try.ntmps69
 go_upto_region 1 with (fail)
 rw [← z64]
 obtain ⟨W1, hwo⟩ : ∃ v : World, v = (w.alloc (.cells (zb 64 (fun _ => 0)) 23)) := ⟨_, rfl⟩
 have B0 : Blk W1 (w.heap.size) 64 23 (fun _ => 0) := by subst hwo; have := (Blk.new w 64 23 (fun _ => 0)); simpa using this
 have hb : Below w.heap.size w W1 := by subst hwo; exact ((Below.refl _ _).alloc (Nat.le_refl _) _)
 rw [← hwo]
 clear hwo
 have lt_B0 := B0.lt
 go_wp2_with (first | rw [← z64] | (refine zbo rfl 23 _ rfl (zb 64 oneP) (by rw [Array.toList_map]; exact built_one) ?_) | (go_at_call 83; refine (HSP.out _).mono ?_; rintro e W2 ⟨rfl, hW2⟩; replace B0 := B0.zw hW2; replace hb := (hb).trans (hW2.mono (hb).size)) | (refine zsr (.tmp 6) (.tmp 12) (pwT p d k) B0 Try.size23 ?_; try simp only [Act.put]))
 obtain ⟨W3, hwo, hzQ⟩ : ∃ v : World, v = (W2.setRow (w.heap.size) (zb 64 (pwT p d k))) ∧ Blk v (w.heap.size) 64 23 (pwT p d k) ∧ Below w.heap.size w v := ⟨_, rfl, (B0.row (pwT p d k)), (zr hb (by omega) _)⟩
 rw [← hwo]
 clear hwo B0 hb
 obtain ⟨B0, hb⟩ := hzQ
 try simp only [Act.put, pA, pB, pC]
 refine bodyPost_ret (zrb rfl _ _ _ 64 23 5 _ rfl B0 Try.underlying23 Try.size23) rfl ⟨rfl, hb⟩
set_option maxRecDepth 100000 in
set_option maxHeartbeats 3200000 in
theorem impl_PowerSum_any (p d k : Int) (w : World) :
 Calls Try.prog 20 #[.int .i64 p, .int .i64 d, .int .i64 k] w fun e w' => e = .returned (.tuple #[.agg (zb 64 (pqW p d k).1), .int .i64 (pqW p d k).2]) ∧ Below w.heap.size w w' := by
 go_enter Try.func20, Try.ntmps20
 go_upto_region 1 with (fail)
 rw [← z64]
 obtain ⟨W1, hwo⟩ : ∃ v : World, v = (w.alloc (.cells (zb 64 (fun _ => 0)) 23)) := ⟨_, rfl⟩
 have B0 : Blk W1 (w.heap.size) 64 23 (fun _ => 0) := by subst hwo; have := (Blk.new w 64 23 (fun _ => 0)); simpa using this
 have hb : Below w.heap.size w W1 := by subst hwo; exact ((Below.refl _ _).alloc (Nat.le_refl _) _)
 rw [← hwo]
 clear hwo
 cases hp : okP p with
 | false =>
  have HP := Lib.hid hp
  have HV := Lib.hid (pqW_c (cdW_1 (d := d) (k := k) hp) (by decide))
  clear hp
  go_upto_region 2 with (first | (go_at_call 66; refine (isPrime_any _ _).mono ?_; rintro e wS ⟨rfl, rfl⟩; rw [HP.out]))
  have lt_B0 := B0.lt
  go_wp2_with (first | rw [← z64] | (refine zsr (.tmp 6) (.tmp 11) (fun _ => 0) B0 Try.size23 ?_; try simp only [Act.put]; go_wp2_with fail))
  obtain ⟨W2, hwo, hzQ⟩ : ∃ v : World, v = (W1.setRow (w.heap.size) (zb 64 (fun _ => 0))) ∧ Blk v (w.heap.size) 64 23 (fun _ => 0) ∧ Below w.heap.size w v := ⟨_, rfl, (B0.row (fun _ => 0)), (zr hb (by omega) _)⟩
  rw [← hwo]
  clear hwo B0 hb
  obtain ⟨B0, hb⟩ := hzQ
  try simp only [Act.put, pA, pB, pC]
  refine bodyPost_ret (results_bt rfl _ _ _ 64 23 5 _ rfl B0 Try.underlying23 Try.size23) rfl ⟨by first | (rw [HV.out]; rfl) | rw [HV.out], hb⟩
 | true =>
  have HP := Lib.hid hp
  obtain ⟨n, hn, n2, n7⟩ := okP_nat hp
  subst hn
  have hpr := prime_four hp
  cases hs : sdB (n : Int) d with
  | false =>
   have HS := Lib.hid hs
   have HV := Lib.hid (pqW_c (cdW_2 (k := k) hp (d := d) (by rw [hs]; simp)) (by decide))
   clear hp hs
   go_upto_region 3 with (first | (go_at_call 66; refine (isPrime_any _ _).mono ?_; rintro e wS ⟨rfl, rfl⟩; rw [HP.out]))
   go_upto_region 4 with (first | (go_at_call 67; refine (isSummed_any n _ _ n2 n7).mono ?_; rintro e wS ⟨rfl, rfl⟩; rw [HS.out]))
   have lt_B0 := B0.lt
   go_wp2_with (first | rw [← z64] | (refine zsr (.tmp 6) (.tmp 21) (fun _ => 0) B0 Try.size23 ?_; try simp only [Act.put]; go_wp2_with fail))
   obtain ⟨W2, hwo, hzQ⟩ : ∃ v : World, v = (W1.setRow (w.heap.size) (zb 64 (fun _ => 0))) ∧ Blk v (w.heap.size) 64 23 (fun _ => 0) ∧ Below w.heap.size w v := ⟨_, rfl, (B0.row (fun _ => 0)), (zr hb (by omega) _)⟩
   rw [← hwo]
   clear hwo B0 hb
   obtain ⟨B0, hb⟩ := hzQ
   try simp only [Act.put, pA, pB, pC]
   refine bodyPost_ret (results_bt rfl _ _ _ 64 23 5 _ rfl B0 Try.underlying23 Try.size23) rfl ⟨by first | (rw [HV.out]; rfl) | rw [HV.out], hb⟩
  | true =>
   have HS := Lib.hid hs
   obtain ⟨d, rfl, hd8, hq3⟩ := sdB_yes hs
   cases hx : xpB k with
   | false =>
    have HX := Lib.hid hx
    have HV := Lib.hid (pqW_c (cdW_2 (k := k) hp (d := (d : Int)) (by rw [hx]; simp)) (by decide))
    clear hp hs hx
    go_upto_region 3 with (first | (go_at_call 66; refine (isPrime_any _ _).mono ?_; rintro e wS ⟨rfl, rfl⟩; rw [HP.out]))
    go_upto_region 4 with (first | (go_at_call 67; refine (isSummed_any n _ _ n2 n7).mono ?_; rintro e wS ⟨rfl, rfl⟩; rw [HS.out]) | (go_at_call 68; refine (isExponent_any _ _).mono ?_; rintro e wS ⟨rfl, rfl⟩; rw [HX.out]))
    have lt_B0 := B0.lt
    go_wp2_with (first | rw [← z64] | (refine zsr (.tmp 6) (.tmp 21) (fun _ => 0) B0 Try.size23 ?_; try simp only [Act.put]; go_wp2_with fail))
    obtain ⟨W2, hwo, hzQ⟩ : ∃ v : World, v = (W1.setRow (w.heap.size) (zb 64 (fun _ => 0))) ∧ Blk v (w.heap.size) 64 23 (fun _ => 0) ∧ Below w.heap.size w v := ⟨_, rfl, (B0.row (fun _ => 0)), (zr hb (by omega) _)⟩
    rw [← hwo]
    clear hwo B0 hb
    obtain ⟨B0, hb⟩ := hzQ
    try simp only [Act.put, pA, pB, pC]
    refine bodyPost_ret (results_bt rfl _ _ _ 64 23 5 _ rfl B0 Try.underlying23 Try.size23) rfl ⟨by first | (rw [HV.out]; rfl) | rw [HV.out], hb⟩
   | true =>
    have HX := Lib.hid hx
    have hc := cdW_0 hp hs hx
    obtain ⟨k, rfl, hk40⟩ := xpB_yes hx
    clear hx hs hp
    have mb0 : (0 : Int) ≤ (d : Int) * (k : Int) := Int.mul_nonneg (by omega) (by omega)
    have mb1 : (d : Int) * (k : Int) ≤ 320 := by
     have := Nat.mul_le_mul hd8 hk40
     have e : ((d * k : Nat) : Int) = (d : Int) * (k : Int) := by push_cast; rfl
     omega
    by_cases hlim : (d : Int) * (k : Int) ≤ 63
    · have HV := Lib.hid (pqW_0 hc hlim)
      have HPS := Lib.hid (fun W => powerSum_any n d k W hpr hd8 hk40 (by exact_mod_cast hlim))
      have h2 : ¬ 63 < (d : Int) * (k : Int) := by omega
      clear hc hlim
      go_upto_region 3 with (first | (go_at_call 66; refine (isPrime_any _ _).mono ?_; rintro e wS ⟨rfl, rfl⟩; rw [HP.out]))
      go_upto_region 5 with (first | (go_at_call 67; refine (isSummed_any n _ _ n2 n7).mono ?_; rintro e wS ⟨rfl, rfl⟩; rw [HS.out]) | (go_at_call 68; refine (isExponent_any _ _).mono ?_; rintro e wS ⟨rfl, rfl⟩; rw [HX.out]))
      go_upto_region 7 with (fail)
      have lt_B0 := B0.lt
      go_wp2_with (first | rw [← z64] | (go_at_call 69; refine (HPS.out _).mono ?_; rintro e W2 ⟨rfl, hW2⟩; replace B0 := B0.zw hW2; replace hb := (hb).trans (hW2.mono (hb).size)) | (refine zsr (.tmp 6) (.tmp 30) (pwT n d k) B0 Try.size23 ?_; try simp only [Act.put]; go_wp2_with fail))
      obtain ⟨W3, hwo, hzQ⟩ : ∃ v : World, v = (W2.setRow (w.heap.size) (zb 64 (pwT n d k))) ∧ Blk v (w.heap.size) 64 23 (pwT n d k) ∧ Below w.heap.size w v := ⟨_, rfl, (B0.row (pwT n d k)), (zr hb (by omega) _)⟩
      rw [← hwo]
      clear hwo B0 hb
      obtain ⟨B0, hb⟩ := hzQ
      try simp only [Act.put, pA, pB, pC]
      refine bodyPost_ret (results_bt rfl _ _ _ 64 23 5 _ rfl B0 Try.underlying23 Try.size23) rfl ⟨by first | (rw [HV.out]; rfl) | rw [HV.out], hb⟩
    · have HV := Lib.hid (pqW_3 hc hlim)
      have h2 : 63 < (d : Int) * (k : Int) := by omega
      clear hc hlim
      go_upto_region 3 with (first | (go_at_call 66; refine (isPrime_any _ _).mono ?_; rintro e wS ⟨rfl, rfl⟩; rw [HP.out]))
      go_upto_region 5 with (first | (go_at_call 67; refine (isSummed_any n _ _ n2 n7).mono ?_; rintro e wS ⟨rfl, rfl⟩; rw [HS.out]) | (go_at_call 68; refine (isExponent_any _ _).mono ?_; rintro e wS ⟨rfl, rfl⟩; rw [HX.out]))
      go_upto_region 6 with (fail)
      have lt_B0 := B0.lt
      go_wp2_with (first | rw [← z64] | (refine zsr (.tmp 6) (.tmp 26) (fun _ => 0) B0 Try.size23 ?_; try simp only [Act.put]; go_wp2_with fail))
      obtain ⟨W2, hwo, hzQ⟩ : ∃ v : World, v = (W1.setRow (w.heap.size) (zb 64 (fun _ => 0))) ∧ Blk v (w.heap.size) 64 23 (fun _ => 0) ∧ Below w.heap.size w v := ⟨_, rfl, (B0.row (fun _ => 0)), (zr hb (by omega) _)⟩
      rw [← hwo]
      clear hwo B0 hb
      obtain ⟨B0, hb⟩ := hzQ
      try simp only [Act.put, pA, pB, pC]
      refine bodyPost_ret (results_bt rfl _ _ _ 64 23 5 _ rfl B0 Try.underlying23 Try.size23) rfl ⟨by first | (rw [HV.out]; rfl) | rw [HV.out], hb⟩
end Go.Proofs.Ytobcdekochenfaa
end
section
namespace Go.Proofs.Ytobcdekochenfaa
open Go.ChangeShapes Go.WideShapes Go.ChangeAt Go.RowKit
section
variable {H : Type} {enc : TypeId × Value → H} {P : Program}
theorem trod_int_to {e : TypeId} {k : IntKind} (he : P.underlying e = some (.int k)) {w : World} (w' : World) {b : Nat} (b' : Nat) {s : Nat → Bool} (s' : Nat → Bool) {h : Bool} (h' : Bool) {m : Nat} {c : List Value} {x : DataW H × List MemPlace}
 (hx : DataW.trod enc P w b s h m e c = some x) : DataW.trod enc P w' b' s' h' m e c = some x := by
 cases m with
 | zero => simp [DataW.trod] at hx
 | succ m =>
  obtain ⟨n, rfl, rfl, hw⟩ := DataW.trod_int he hx
  unfold DataW.trod
  rw [he]
  simp [hw]
theorem trod_int_same {e : TypeId} {k : IntKind} (he : P.underlying e = some (.int k)) (w w' : World) (b b' : Nat) (s s' : Nat → Bool) (h h' : Bool) (m : Nat) (c : List Value) :
 DataW.trod enc P w b s h m e c = DataW.trod enc P w' b' s' h' m e c := by
 cases h1 : DataW.trod enc P w b s h m e c with
 | some x => rw [trod_int_to he w' b' s' h' h1]
 | none =>
  cases h2 : DataW.trod enc P w' b' s' h' m e c with
  | none => rfl
  | some x => rw [trod_int_to he w b s h h2] at h1; cases h1
theorem open_barr {t e : TypeId} {n : Nat} {w : World} {r : Reach} {b0 base : Nat} {spare : Nat → Bool} {held : Bool} {v : Value} {d : DataW H} {p : List MemPlace}
 (ht : P.underlying t = some (.array n e)) (he : P.underlying e = some (.int .u8)) (hC : P.cellsOf t = n) (hCe : P.cellsOf e = 1)
 (hv : Value.okWide P w r b0 t v) (h : DataW.Trod enc P w base spare held t v d p) :
 ∃ f : Nat → Nat, byte f ∧ v = .agg (zb n f) ∧ p = [] ∧ ∀ (w' : World) (base' : Nat) (spare' : Nat → Bool) (held' : Bool), DataW.Trod enc P w' base' spare' held' t v d [] := by
 unfold Value.okWide at hv
 rw [ht] at hv
 obtain ⟨cs, rfl, hsz, _⟩ := hv
 obtain ⟨fuel, hf⟩ := h
 obtain ⟨xs, m, hm, hx, hlen, hxl, hel⟩ := DataW.trod_array ht hf
 subst hm
 have hcs : cs.size = n := by rw [hsz, hC]
 have each : ∀ i, i < n → ∃ k : Nat, k < 256 ∧ cs[i]? = some (.int .u8 (k : Int)) ∧ xs[i]? = some (.lit (.int .u8 (k : Int)), []) := by
  intro i hi
  have h1 := hel i hi
  have hxi : xs[i]? = some (xs[i]'(by omega)) := List.getElem?_eq_getElem (by omega)
  rw [hxi, hCe] at h1
  obtain ⟨z, hz1, hz2, hz3⟩ := DataW.trod_int he h1
  have hb := bounds_u8 hz3
  obtain ⟨k, rfl⟩ := Int.eq_ofNat_of_zero_le hb.1
  refine ⟨k, by omega, ?_, by rw [hxi, hz2]⟩
  have h2 : ((cs.toList.drop (i * 1)).take 1)[0]? = some (.int .u8 (k : Int)) := by
   have h3 : (Value.agg cs).cells.toList = cs.toList := rfl
   rw [← h3, hz1]; rfl
  simpa using h2
 refine ⟨fun i => match cs[i]? with | some (.int _ z) => if i < n then z.toNat else 0 | _ => 0, ?_, ?_, ?_, ?_⟩
 · intro i
   by_cases hi : i < n
   · obtain ⟨k, hk, hc, _⟩ := each i hi
     simp only [hc, hi, if_true, Int.toNat_natCast]
     exact hk
   · have : cs[i]? = none := Array.getElem?_eq_none (by omega)
     simp [this]
 · congr 1
   apply Array.ext_getElem?
   intro i
   by_cases hi : i < n
   · obtain ⟨k, hk, hc, _⟩ := each i hi
     rw [bcells_get hi]
     simp only [hc, hi, if_true, Int.toNat_natCast]
   · rw [Array.getElem?_eq_none (by omega), Array.getElem?_eq_none (by rw [zbs]; omega)]
 · have hp : p = xs.flatMap (·.2) := by simpa using congrArg Prod.snd hx
   rw [hp]
   rw [List.flatMap_eq_nil_iff]
   intro x hxm
   obtain ⟨i, hi⟩ := List.getElem?_of_mem hxm
   have hin : i < n := by rw [← hxl]; exact (List.getElem?_eq_some_iff.1 hi).1
   obtain ⟨k, _, _, h2⟩ := each i hin
   rw [hi] at h2
   injection h2 with h2
   rw [h2]
 · intro w' base' spare' held'
   refine ⟨m + 1, ?_⟩
   have e1 : DataW.trod enc P w' base' spare' held' (m + 1) t (Value.agg cs).cells.toList = DataW.trod enc P w base spare held (m + 1) t (Value.agg cs).cells.toList := by
    unfold DataW.trod
    rw [ht]
    simp only [trod_int_same he w' w base' base spare' spare held' held m]
   rw [e1, hf]
   have hp : p = xs.flatMap (·.2) := by simpa using congrArg Prod.snd hx
   have : p = [] := by
    rw [hp, List.flatMap_eq_nil_iff]
    intro x hxm
    obtain ⟨i, hi⟩ := List.getElem?_of_mem hxm
    have hin : i < n := by rw [← hxl]; exact (List.getElem?_eq_some_iff.1 hi).1
    obtain ⟨k, _, _, h2⟩ := each i hin
    rw [hi] at h2
    injection h2 with h2
    rw [h2]
   rw [this]
/-- the row's last step where the call has only made new memory, and the row does not say 'again' -/
theorem post_of_below0 {f : Func} {s : ChangeSpec} {apart fresh handsOn : Bool} {W W' : World} {args : Array Value} {v : Value} {ds gs : List (DataW H)} {before pa pv : List MemPlace}
 (hW : DataW.Whole enc P f.params.toList s.vars apart W args.toList ds gs before)
 (hres : ∀ (b : Nat) (sp : Nat → Bool) (hd : Bool), DataW.TrodAll enc P W' b sp hd f.resultTypes.toList (v.resultList f.resultTypes.size) (s.fn H (ds ++ gs)).results [])
 (hargs : ∀ sp : Nat → Bool, (∀ p ∈ before, sp p.block = true) → DataW.TrodAll enc P W' 0 sp true f.params.toList args.toList (s.fn H (ds ++ gs)).args pa)
 (hvars : ∀ sp : Nat → Bool, (∀ p ∈ before, sp p.block = true) → DataW.TrodVars enc P W' sp s.vars (s.fn H (ds ++ gs)).vars pv)
 (hps : before = pa ++ pv) (hb : Below W.heap.size W W') : s.post enc P f apart fresh handsOn false W args v W' := by
 have held : ∀ p ∈ before, (fun b => decide (b < W.heap.size)) p.block = true := fun p hp => by simpa using hW.lt p hp
 refine ⟨ds, gs, before, [], pa, pv, hW, hres _ _ _, hargs _ held, hvars _ held, ?_, fun h => by cases h⟩
 refine World.keptBut_mono (fun p hp => ⟨hp, .inr ?_⟩) (hb.frame (· ∈ before))
 rw [hps, List.mem_append] at hp
 exact hp
end
end Go.Proofs.Ytobcdekochenfaa
end
section
namespace Go.Proofs.Ytobcdekochenfaa
open Go
def cutW : List Char := [Char.ofNat 99, Char.ofNat 117, Char.ofNat 116]
theorem strip_cut (rest : List (List Char)) : stripLifts liftWords (cutW :: rest) = ([], cutW :: rest) := by
 have key : ∀ os : List String, (os.all fun o => !(cutW == o.toList)) = true → stripLifts os (cutW :: rest) = ([], cutW :: rest) := by
  intro os
  induction os with
  | nil => intro _; rfl
  | cons o os ih =>
   intro h
   simp only [List.all_cons, Bool.and_eq_true, Bool.not_eq_true'] at h
   unfold stripLifts
   rw [h.1]
   exact ih h.2
 exact key _ (by decide +kernel)
theorem make_cut {P : Program} {rest : List (List Char)} (h : behindMainWord (wordsSigns P.initOrder.toList) = cutW :: rest) : P.make = some .cut := by
 unfold Program.make
 rw [h]
 have e1 : (cutW == "gc".toList || cutW == "spec".toList) = false := by decide +kernel
 have e2 : (cutW == "cut".toList) = true := by decide +kernel
 simp only [e1, e2, Bool.true_or]
 rfl
theorem mayEnter_cut {P : Program} {rest : List (List Char)} (h : behindMainWord (wordsSigns P.initOrder.toList) = cutW :: rest) (h1 : P.laysLater = false) (h2 : P.bearsReflect = false) (h3 : P.doorFits [] = true) : P.mayEnter = true := by
 unfold Program.mayEnter
 rw [h]
 have e2 : (some cutW == some "cut".toList) = true := by decide +kernel
 simp only [strip_cut, h1, h2, h3, List.head?_cons, e2]
 simp
theorem lifts_cut {P : Program} {rest : List (List Char)} (h : behindMainWord (wordsSigns P.initOrder.toList) = cutW :: rest) : P.liftsFinal = false := by
 unfold Program.liftsFinal Program.headLifts
 rw [h]
 have e2 : (some cutW == some "cut".toList) = true := by decide +kernel
 have e3 : (some cutW == some "carried".toList) = false := by decide +kernel
 simp only [strip_cut, List.head?_cons, e2, e3]
 simp
/-- the signs of the head, and its words behind the first three -/
def initRest : List (List Nat) := [[97, 116], [108, 111, 111, 112, 46, 101, 120, 97, 109, 112, 108, 101, 47, 103, 48, 49, 50, 52, 53, 47, 108, 97, 119, 115, 46, 70, 110, 69, 120, 97, 99, 116, 80, 111, 119, 101, 114, 83, 117, 109], [108, 111, 111, 112, 46, 101, 120, 97, 109, 112, 108, 101, 47, 103, 48, 49, 50, 52, 53, 47, 108, 97, 119, 115, 46, 70, 110, 69, 120, 97, 99, 116, 68, 105, 103, 105, 116, 83, 117, 109], [108, 111, 111, 112, 46, 101, 120, 97, 109, 112, 108, 101, 47, 103, 48, 49, 50, 52, 53, 47, 108, 97, 119, 115, 46, 70, 110, 69, 120, 97, 99, 116, 83, 104, 105, 102, 116, 101, 100, 83, 117, 109], [108, 111, 111, 112, 46, 101, 120, 97, 109, 112, 108, 101, 47, 103, 48, 49, 50, 52, 53, 47, 108, 97, 119, 115, 46, 70, 110, 69, 120, 97, 99, 116, 70, 105, 114, 115, 116, 86, 97, 110, 105, 115, 104, 105, 110, 103], [108, 111, 111, 112, 46, 101, 120, 97, 109, 112, 108, 101, 47, 103, 48, 49, 50, 52, 53, 47, 108, 97, 119, 115, 46, 70, 110, 69, 120, 97, 99, 116, 80, 111, 119, 101, 114, 79, 102], [108, 111, 111, 112, 46, 101, 120, 97, 109, 112, 108, 101, 47, 103, 48, 49, 50, 52, 53, 47, 108, 97, 119, 115, 46, 70, 110, 69, 120, 97, 99, 116, 90, 101, 116, 97, 65, 116], [108, 111, 111, 112, 46, 101, 120, 97, 109, 112, 108, 101, 47, 103, 48, 49, 50, 52, 53, 47, 108, 97, 119, 115, 46, 70, 110, 69, 120, 97, 99, 116, 78, 101, 115, 116, 101, 100, 83, 117, 109], [108, 111, 111, 112, 46, 101, 120, 97, 109, 112, 108, 101, 47, 103, 48, 49, 50, 52, 53, 47, 108, 97, 119, 115, 46, 70, 110, 69, 120, 97, 99, 116, 81, 117, 97, 100, 114, 97, 116, 105, 99, 83, 121, 109, 98, 111, 108], [108, 111, 111, 112, 46, 101, 120, 97, 109, 112, 108, 101, 47, 103, 48, 49, 50, 52, 53, 47, 108, 97, 119, 115, 46, 70, 110, 69, 120, 97, 99, 116, 83, 121, 109, 98, 111, 108, 83, 117, 109], [108, 111, 111, 112, 46, 101, 120, 97, 109, 112, 108, 101, 47, 103, 48, 49, 50, 52, 53, 47, 108, 97, 119, 115, 46, 70, 110, 69, 120, 97, 99, 116, 83, 121, 109, 98, 111, 108, 80, 111, 108, 121, 110, 111, 109, 105, 97, 108], [108, 111, 111, 112, 46, 101, 120, 97, 109, 112, 108, 101, 47, 103, 48, 49, 50, 52, 53, 47, 108, 97, 119, 115, 46, 70, 110, 69, 120, 97, 99, 116, 67, 108, 97, 115, 115, 83, 117, 109], [108, 111, 111, 112, 46, 101, 120, 97, 109, 112, 108, 101, 47, 103, 48, 49, 50, 52, 53, 47, 108, 97, 119, 115, 46, 70, 110, 69, 120, 97, 99, 116, 65, 114, 101, 73, 115, 111, 109, 111, 114, 112, 104, 105, 99], [108, 111, 111, 112, 46, 101, 120, 97, 109, 112, 108, 101, 47, 103, 48, 49, 50, 52, 53, 47, 108, 97, 119, 115, 46, 70, 110, 69, 120, 97, 99, 116, 68, 114, 105, 110, 102, 101, 108, 100, 65, 99, 116, 105, 111, 110], [108, 111, 111, 112, 46, 101, 120, 97, 109, 112, 108, 101, 47, 103, 48, 49, 50, 52, 53, 47, 108, 97, 119, 115, 46, 70, 110, 69, 120, 97, 99, 116, 67, 111, 109, 112, 97, 110, 105, 111, 110, 79, 102], [108, 111, 111, 112, 46, 101, 120, 97, 109, 112, 108, 101, 47, 103, 48, 49, 50, 52, 53, 47, 108, 97, 119, 115, 46, 70, 110, 69, 120, 97, 99, 116, 65, 112, 112, 108, 121, 83, 113, 117, 97, 114, 101], [108, 111, 111, 112, 46, 101, 120, 97, 109, 112, 108, 101, 47, 103, 48, 49, 50, 52, 53, 47, 108, 97, 119, 115, 46, 70, 110, 69, 120, 97, 99, 116, 76, 111, 103, 97, 114, 105, 116, 104, 109, 79, 102]]
def initSigns : List Nat := [104, 97, 114, 110, 101, 115, 115, 32, 99, 50, 97, 57, 99, 53, 99, 98, 51, 100, 102, 52, 101, 54, 53, 102, 98, 54, 56, 54, 50, 49, 54, 50, 51, 101, 49, 57, 49, 54, 53, 56, 97, 57, 50, 50, 98, 98, 99, 101, 99, 53, 52, 57, 98, 54, 102, 100, 99, 101, 49, 55, 50, 52, 48, 53, 57, 56, 50, 49, 100, 56, 56, 52, 32, 99, 117, 116] ++ initRest.flatMap fun x => 32 :: x
theorem init_split : behindMainWord (wordsSigns (initSigns.map Char.ofNat)) = cutW :: initRest.map (fun w => w.map Char.ofNat) := by kernel_rfl
theorem init_order : Try.prog.initOrder = String.ofList (initSigns.map Char.ofNat) := by kernel_rfl
theorem init_cut : behindMainWord (wordsSigns Try.prog.initOrder.toList) = cutW :: initRest.map (fun w => w.map Char.ofNat) :=
 (congrArg (fun s : String => behindMainWord (wordsSigns s.toList)) init_order).trans ((congrArg (fun l => behindMainWord (wordsSigns l)) String.toList_ofList).trans init_split)
theorem Try.laysLater : Try.prog.laysLater = false := by kernel_rfl
theorem Try.bearsReflect : Try.prog.bearsReflect = false := by kernel_rfl
theorem Try.doorFits : Try.prog.doorFits [] = true := by kernel_rfl
theorem Try.mayEnter : Try.pinned.checked.prog.mayEnter = true := mayEnter_cut init_cut Try.laysLater Try.bearsReflect Try.doorFits
theorem Try.liftsFinal : Try.pinned.checked.prog.liftsFinal = false := lifts_cut init_cut
theorem Try.make : Try.pinned.checked.prog.make = some .cut := make_cut init_cut
end Go.Proofs.Ytobcdekochenfaa
end
