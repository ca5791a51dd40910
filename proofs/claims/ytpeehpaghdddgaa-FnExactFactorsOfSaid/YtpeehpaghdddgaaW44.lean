/-
  Walks: the model's factors of a polynomial.
-/
import Derived.Test.YtpeehpaghdddgaaWr
import Derived.Test.YtpeehpaghdddgaaSps
namespace Go.Proofs.Ytpeehpaghdddgaa
open Go Go.RowKit
set_option linter.unusedVariables false
set_option linter.unusedSimpArgs false
attribute [local irreducible] deg invN dS qS stp stpr quoP resP oneP ofN dvo spI spO spN run lowf monL finL facRows
theorem facRows_app (p : Nat) (L M : List (Nat × Nat)) : facRows p (L ++ M) = facRows p L ++ facRows p M := by unfold facRows; exact List.map_append
theorem finL_rows {p : Nat} {X : Nat → Nat} (hp : p = 2 ∨ p = 3 ∨ p = 5 ∨ p = 7) (hX : ∀ k, k < 64 → X k < p) (h0 : 0 < deg X) : facRows p (finL p X) = [facC (monP p X) 1] := by
  obtain ⟨D, hD⟩ : ∃ D : Nat, deg X = (D : Int) := ⟨(deg X).toNat, by omega⟩
  obtain ⟨m1, m2, _, _⟩ := made_mon hp hX hD
  unfold finL facRows
  rw [if_pos h0, hD, Int.toNat_natCast]
  obtain ⟨q, hq⟩ : ∃ q, q = monP p X := ⟨_, rfl⟩
  have e : sclP p X (invN p (X D)) = q := by rw [hq]; unfold monP; rw [hD, Int.toNat_natCast]
  rw [e] at m1 m2
  rw [← hq]
  obtain ⟨_, h2⟩ := mon_num (by omega) m2 m1
  show [facC (ofN p (vl p q (D + 1))) 1] = [facC q 1]
  unfold facC bl
  rw [List.map_congr_left (fun k hk => by rw [h2 k (by simpa using hk)])]
theorem left_ne {p N : Nat} {X : Nat → Nat} (hp : p = 2 ∨ p = 3 ∨ p = 5 ∨ p = 7) (hX : ∀ k, k < 64 → X k < p) (h0 : 0 ≤ deg X) (h : ¬ dv p (lz (ofN p N)) (lz X)) : eqN 64 (ofN p N) (monP p X) = false := by
  cases he : eqN 64 (ofN p N) (monP p X) with
  | false => rfl
  | true =>
    exfalso; apply h
    obtain ⟨D, hD⟩ : ∃ D : Nat, deg X = (D : Int) := ⟨(deg X).toNat, by omega⟩
    obtain ⟨_, _, _, m4⟩ := made_mon hp hX hD
    rw [lz_congr (eqN_iff.1 he)]
    unfold monP
    rw [hD, Int.toNat_natCast]
    exact (m4 _).2 (dv_self _)
theorem slL_empty (w : World) (e : TypeId) (size : Nat) {base : Nat} (h : base ≤ w.heap.size) : SlL (w.alloc (.cells #[] e)) base e size (.slice (some ⟨w.heap.size, 0, none⟩) 0 0) [] := by
  delta SlL
  refine ⟨?_, ?_, ?_⟩
  · simp; omega
  · intro c hc; cases hc
  · exact ⟨by simp, .inr ⟨w.heap.size, 0, #[], rfl, h, heap_alloc_last w _, Nat.le_refl _, Nat.zero_le _, by simp, by simp⟩⟩
theorem built_fac2 (f : Nat → Nat) (k : Nat) : Try.prog.built 102 [(0, .agg (bcells 64 f)), (1, .int .i64 (k : Int))] = some (facC f k).toArray := by unfold facC bcells bl; kernel_rfl
set_option maxRecDepth 100000 in
set_option maxHeartbeats 12800000 in
theorem l01Count_any (p n : Nat) (w : World) (hp1 : 2 ≤ p) (hp2 : p ≤ 7) (hn : n ≤ 12) :
    Calls Try.prog 91 #[.int .i64 (p : Int), .int .i64 (n : Int)] w fun e w' => e = .returned (.int .i64 ((p ^ n : Nat) : Int)) ∧ w = w' := by
  go_enter Try.func91, Try.ntmps91
  go_wp2_with fail
  go_loopw [5, 1] (fun x i wr => ∃ k j X : Nat, k + j = n ∧ X = p ^ k ∧ x = .int .i64 (X : Int) ∧ i = .int .i64 (j : Int) ∧ wr = w) (fun _ i _ => (intOf i).toNat)
  case atStart => exact ⟨0, n, 1, by omega, rfl, rfl, rfl, rfl⟩
  case round =>
    obtain ⟨k, j, X, hk, hX, rfl, rfl, rfl⟩ := hrel
    have hb := mon_bound hp2 (by omega : k ≤ 12)
    rw [← hX] at hb
    have hX12 : (X : Int) ≤ 1000000000000 := by omega
    have HK := Lib.hid hk
    have hj20 : j ≤ 20 := by omega
    clear hk
    by_cases hlt : 0 < j
    · have hm : ((X * p : Nat) : Int) ≤ 13841287201 * 7 := by
        have : X * p ≤ 13841287201 * 7 := Nat.mul_le_mul hb hp2
        omega
      have hm2 : 0 ≤ ((X * p : Nat) : Int) := by omega
      rw [Int.natCast_mul] at hm hm2
      have HX := Lib.hid hX; clear hX
      go_wp2_with fail
      go_roundw
      case rel => exact ⟨k + 1, j - 1, X * p, by have := HK.out; omega, by rw [Nat.pow_succ, ← HX.out], by go_num, by rw [show ((j - 1 : Nat) : Int) = (j : Int) - 1 by omega], trivial⟩
      case measure => simp [intOf]; omega
    · have e : j = 0 := by omega
      subst e
      have e2 : k = n := by have := HK.out; omega
      have hmn : ((X : Int) < 1000000000001) := by omega
      have HX := Lib.hid hX
      have HK2 := Lib.hid e2
      clear hX e2
      go_wp2_with fail
      go_ret
      exact ⟨ret_int (congrArg (fun x : Nat => (x : Int)) (by rw [HX.out, HK2.out])), rfl⟩
set_option maxRecDepth 100000 in
set_option maxHeartbeats 12800000 in
theorem l02Split_any (p : Nat) (f : Nat → Nat) (w : World) (hpr : p = 2 ∨ p = 3 ∨ p = 5 ∨ p = 7) (lf : ∀ k, k < 64 → f k < p) (h0 : 0 ≤ deg f) (h12 : deg f ≤ 12) :
    Calls Try.prog 104 #[.int .i64 (p : Int), .agg (bcells 64 f)] w (FaF p f w) := by
  have p2 : 2 ≤ p := by omega
  have p7 : p ≤ 7 := by omega
  have p0 : 0 < p := by omega
  have HLF := Lib.hid lf
  have HEND := Lib.hid (spO_eq hpr 64 1 f (by omega) (by omega) lf h0 (lowf_one f))
  have HLEFT := Lib.hid (spO_left hpr 64 1 f (by omega) lf h0 (lowf_one f))
  clear lf
  go_enter Try.func104, Try.ntmps104
  go_upto_region 1 with (fail)
  obtain ⟨W1, hwo⟩ : ∃ v : World, v = (w.alloc (.cells (bcells 64 (f)) 26)) := ⟨_, rfl⟩
  have B0 : Blk W1 (w.heap.size) 64 26 (f) := by subst hwo; have := (Blk.new w 64 26 (f)); simpa using this
  have hb : Below w.heap.size w W1 := by subst hwo; exact ((Below.refl _ _).alloc (Nat.le_refl _) _)
  rw [← hwo]
  clear hwo
  go_upto_block 0 with (fail)
  obtain ⟨base, hbase0⟩ : ∃ n, n = W1.heap.size := ⟨_, rfl⟩
  have yb_0 : (w.heap.size) < base := by rw [hbase0]; exact B0.lt
  have ybw : w.heap.size ≤ base := by rw [hbase0]; exact hb.size
  have hS0 : SlL (W1.alloc (.cells #[] 102)) base 102 65 (.slice (some ⟨W1.heap.size, 0, none⟩) 0 0) (facRows p []) := by unfold facRows; exact slL_empty W1 102 65 (Nat.le_of_eq hbase0)
  have hb1 : Below w.heap.size w (W1.alloc (.cells #[] 102)) := hb.alloc hb.size _
  have qB0 : Blk (W1.alloc (.cells #[] 102)) (w.heap.size) 64 26 f := B0.alloc _
  clear hbase0 hb B0
  go_wp2_with fail
  go_loopw [5, 6] (fun s5 i wr => ∃ (fu n : Nat) (X : Nat → Nat) (LL : List (Nat × Nat)) (lst : Value), lst = s5 ∧ n + fu = 64 ∧ i = .int .i64 ((n : Int) + 1) ∧ Hid (spO p 64 1 f = (LL ++ (spO p fu (n + 1) X).1, (spO p fu (n + 1) X).2)) ∧ Hid (∀ k, k < 64 → X k < p) ∧ 0 ≤ deg X ∧ deg X ≤ 12 ∧ LL.length ≤ n * 13841287202 ∧ Below w.heap.size w wr ∧ Blk wr (w.heap.size) 64 26 X ∧ SlL wr base 102 65 lst (facRows p LL)) (fun _ i _ => 80 - (intOf i).toNat)
  case atStart => exact ⟨64, 0, f, [], _, rfl, rfl, rfl, Lib.hid rfl, HLF, h0, h12, by simp, hb1, qB0, hS0⟩
  case round =>
    clear hb1 hS0 qB0
    obtain ⟨fu, n, X, LL, lst, rfl, hfu, rfl, hE, hX, hX0, hX12, hLL, hb, B0, hS⟩ := hrel
    have HFU := Lib.hid hfu
    clear hfu
    by_cases hd : 2 * ((n : Int) + 1) ≤ deg X
    · obtain ⟨fu, rfl⟩ : ∃ t, fu = t + 1 := ⟨fu - 1, by have := HFU.out; omega⟩
      have hn5 : n ≤ 5 := by omega
      obtain ⟨q, hq⟩ : ∃ q, q = p ^ (n + 1) := ⟨_, rfl⟩
      have hqb : q ≤ 13841287201 := by rw [hq]; exact mon_bound p7 (by omega)
      have HCQ := Lib.hid (show ∀ W, Calls Try.prog 91 #[.int .i64 (p : Int), .int .i64 ((n + 1 : Nat) : Int)] W fun e w' => e = .returned (.int .i64 (q : Int)) ∧ W = w' by rw [hq]; exact fun W => l01Count_any p (n + 1) W p2 p7 (by omega))
      have HQ := Lib.hid hq
      clear hq
      have HSS := Lib.hid (spO_step (p := p) (f := fu) (n := n + 1) (a := X) (by push_cast; omega))
      have B1 := hS.top
      have B2 : SzG wr.heap.size wr := Nat.le_refl _
      clear hS
      go_upto_region 5 with (first | (refine wpList_load_any rfl 26 (.tmp 3) rfl _ rfl 64 26 _ (B0) _ Try.underlying26 rfl Try.size26 ?_) | (go_at_call 77; refine (l01Deg_any X _).mono ?_; rintro e W2 ⟨rfl, hW2⟩; replace B0 := B0.below hW2 B0.lt; replace B1 := B1.below hW2 B1.lt; replace B2 := B2.below hW2 B2.lt; replace hb := (hb).trans (hW2.mono (hb).size)))
      go_upto_region 99 with (first | (go_at_call 91; refine (HCQ.out _).mono ?_; rintro e wS ⟨rfl, rfl⟩))
      go_loopw [5, 7] (fun s5 i wr => ∃ (j : Nat) (Y : Nat → Nat) (LJ : List (Nat × Nat)) (lst2 : Value), lst2 = s5 ∧ j ≤ q ∧ i = .int .i64 ((q : Int) + (j : Int)) ∧ Hid (spI p (n + 1) (List.range' q j) X = (LJ, Y)) ∧ LJ.length ≤ j ∧ Hid (∀ k, k < 64 → Y k < p) ∧ 0 ≤ deg Y ∧ deg Y ≤ 12 ∧ Below w.heap.size w wr ∧ Blk wr (w.heap.size) 64 26 Y ∧ SlL wr base 102 65 lst2 (facRows p (LL ++ LJ))) (fun _ i _ => q + q + 1 - (intOf i).toNat)
      case atStart => exact ⟨0, X, [], lst, rfl, Nat.zero_le _, by simp, Lib.hid (by unfold spI; rfl), Nat.zero_le _, hX, hX0, hX12, hb, B0, (by rw [List.append_nil]; exact B1.1)⟩
      case round =>
        clear hb B0 B1 B2
        obtain ⟨j, Y, LJ, lst2, rfl, hjq, rfl, hSI, hLJ, hY, hY0, hY12, hb, B0, hS⟩ := hrel
        by_cases hj : j < q
        · have hcj : (q : Int) + (j : Int) < 2 * (q : Int) := by omega
          by_cases hdY : 2 * ((n : Int) + 1) ≤ deg Y
          · have hmem : q + j ∈ monL p (n + 1) := by rw [monL_mem, ← HQ.out]; omega
            have hmx := mon_ofN p2 (by omega : n + 1 < 64) hmem
            obtain ⟨x, hxq⟩ : ∃ x, x = q + j := ⟨_, rfl⟩
            rw [← hxq] at hmx
            have hxb : (x : Int) ≤ 1000000000000 := by omega
            have HOF := Lib.hid (show ∀ W, Calls Try.prog 92 #[.int .i64 (p : Int), .int .i64 ((q + j : Nat) : Int)] W fun e w' => e = .returned (.agg (bcells 64 (ofN p x))) ∧ Below W.heap.size W w' by rw [← hxq]; exact fun W => l01Of_any p x W p2 p7 hxb)
            have HSN := Lib.hid (show spI p (n + 1) (List.range' q (j + 1)) X = (LJ ++ spN p x Y, (dvo p (ofN p x) 64 Y).2) by rw [range_snoc, ← hxq, spI_snoc, hSI.out, if_pos (by push_cast; exact hdY)])
            obtain ⟨d1, d2, d3, d4⟩ := dvo_ok (m := ofN p x) hpr (fun k _ => ofN_lt p0 x k) hmx 64 Y hY.out hY0
            have HD1 := Lib.hid d1
            have HMX := Lib.hid hmx
            have hdx : deg (ofN p x) = ((n : Int) + 1) := by rw [hmx.1]; push_cast; rfl
            have HDX := Lib.hid hdx
            clear hmem d1 hmx hSI hxq hdx hxb
            have B3 := hS.top
            have B4 : SzG wr.heap.size wr := Nat.le_refl _
            clear hS
            go_upto_region 8 with (first | (go_at_call 91; refine (HCQ.out _).mono ?_; rintro e wS ⟨rfl, rfl⟩) | (refine wpList_load_any_g rfl 26 (.tmp 3) rfl _ rfl 64 26 _ (B0) _ Try.underlying26 rfl Try.size26 ?_) | (go_at_call 77; refine (l01Deg_any Y _).mono ?_; rintro e W3 ⟨rfl, hW3⟩; replace B0 := B0.below hW3 B0.lt; replace B3 := B3.below hW3 B3.lt; replace B4 := B4.below hW3 B4.lt; replace hb := (hb).trans (hW3.mono (hb).size)))
            have lt_B0 := B0.lt
            have lt_B3 := B3.lt
            have lt_B4 := B4.lt
            go_upto_region 99 with (first | rw [← zero64] | (go_at_call 92; refine (HOF.out _).mono ?_; rintro e W4 ⟨rfl, hW4⟩; replace B0 := B0.below hW4 B0.lt; replace B3 := B3.below hW4 B3.lt; replace B4 := B4.below hW4 B4.lt; replace hb := (hb).trans (hW4.mono (hb).size)) | (refine wpList_store_blk rfl 26 (.tmp 8) (.tmp 43) rfl _ 64 (ofN p x) rfl rfl 26 _ ((Blk.new W4 64 26 (fun _ => 0))) Try.size26 ?_; try simp only [Act.put]; go_upto_region 99 with (fail)))
            have lt_B0 := B0.lt
            have lt_B3 := B3.lt
            have lt_B4 := B4.lt
            have lhb := hb.size
            have qB0 : Blk ((W4.alloc (.cells (bcells 64 fun _ => 0) 26)).setRow (W4.heap.size) (bcells 64 (ofN p x))) (w.heap.size) 64 26 (Y) := ((B0.alloc (.cells (bcells 64 fun _ => 0) 26)).rowOther (by omega))
            have qB3 : SlT ((W4.alloc (.cells (bcells 64 fun _ => 0) 26)).setRow (W4.heap.size) (bcells 64 (ofN p x))) base wr.heap.size 102 65 lst2 (facRows p (LL ++ LJ)) := ((B3.alloc (.cells (bcells 64 fun _ => 0) 26)).rowOther (by omega))
            have qB4 : SzG wr.heap.size ((W4.alloc (.cells (bcells 64 fun _ => 0) 26)).setRow (W4.heap.size) (bcells 64 (ofN p x))) := ((B4.alloc (.cells (bcells 64 fun _ => 0) 26)).rowOther (by omega))
            have qB5 : Blk ((W4.alloc (.cells (bcells 64 fun _ => 0) 26)).setRow (W4.heap.size) (bcells 64 (ofN p x))) (W4.heap.size) 64 26 (ofN p x) := ((Blk.new W4 64 26 (fun _ => 0)).row (ofN p x))
            have qhb : Below w.heap.size w ((W4.alloc (.cells (bcells 64 fun _ => 0) 26)).setRow (W4.heap.size) (bcells 64 (ofN p x))) := (below_row (hb.alloc (by have := hb.size; simp; omega) (.cells (bcells 64 fun _ => 0) 26)) (by omega) _)
            obtain ⟨W5, hwo⟩ : ∃ v : World, v = ((W4.alloc (.cells (bcells 64 fun _ => 0) 26)).setRow (W4.heap.size) (bcells 64 (ofN p x))) := ⟨_, rfl⟩
            rw [← hwo] at qB0 qB3 qB4 qB5 qhb ⊢
            clear hwo
            clear B0 B3 B4 hb
            have B0 := qB0
            have B3 := qB3
            have B4 := qB4
            have B5 := qB5
            have hb := qhb
            clear qB0 qB3 qB4 qB5 qhb
            obtain ⟨N1, hNN⟩ : ∃ n : Nat, n = W4.heap.size := ⟨_, rfl⟩
            rw [← hNN] at lt_B0 lt_B3 lt_B4 lhb B5 ⊢
            clear hNN
            have zN1_0 := lt_B0
            have zN1_3 := lt_B3
            have zN1_4 := lt_B4
            have zN1 := lhb
            clear lt_B0 lt_B3 lt_B4 lhb
            try simp only [Act.put, List.setIfInBounds_toArray, List.set_cons_zero, List.set_cons_succ]
            clear HOF
            go_wp2_with fail
            go_loopw [9] (fun i wr => ∃ (fu2 i0 : Nat) (Z : Nat → Nat), i0 + fu2 = 64 ∧ i = .int .i64 (i0 : Int) ∧ Hid (dvo p (ofN p x) 64 Y = ((dvo p (ofN p x) fu2 Z).1 + i0, (dvo p (ofN p x) fu2 Z).2)) ∧ Hid (∀ k, k < 64 → Z k < p) ∧ 0 ≤ deg Z ∧ deg Z < (fu2 : Int) ∧ Below w.heap.size w wr ∧ Blk wr (w.heap.size) 64 26 Z ∧ Blk wr (N1) 64 26 (ofN p x) ∧ SlL wr base 102 65 lst2 (facRows p (LL ++ LJ)) ∧ W5.heap.size ≤ wr.heap.size) (fun i _ => 65 - (intOf i).toNat)
            case atStart => exact ⟨64, 0, Y, rfl, rfl, Lib.hid rfl, hY, hY0, by omega, hb, B0, B5, B3.1, Nat.le_refl _⟩
            case round =>
              clear hb B0 B3 B4 B5
              obtain ⟨fu2, i0, Z, hfu2, rfl, hDE, hZ, hZ0, hZf, hb, B0, B5, hS, hszW⟩ := hrel
              obtain ⟨fu2, rfl⟩ : ∃ t, fu2 = t + 1 := ⟨fu2 - 1, by omega⟩
              have HDV := Lib.hid (fun W => l01Divide_any p Z (ofN p x) W hpr hZ.out (fun k _ => ofN_lt p0 x k) (by rw [HDX.out]; omega))
              have i64 : i0 ≤ 63 := by omega
              have HF2 := Lib.hid hfu2
              clear hfu2
              have B6 := hS.top
              have B7 : SzG wr.heap.size wr := Nat.le_refl _
              clear hS
              by_cases hge : (n : Int) + 1 ≤ deg Z
              · 
                go_upto_region 10 with (first | (refine wpList_load_any rfl 26 (.tmp 3) rfl _ rfl 64 26 _ (B0) _ Try.underlying26 rfl Try.size26 ?_) | (go_at_call 77; refine (l01Deg_any Z _).mono ?_; rintro e W6 ⟨rfl, hW6⟩; replace B0 := B0.below hW6 B0.lt; replace B5 := B5.below hW6 B5.lt; replace B6 := B6.below hW6 B6.lt; replace B7 := B7.below hW6 B7.lt; replace hb := (hb).trans (hW6.mono (hb).size)))
                have lt_B0 := B0.lt
                have lt_B5 := B5.lt
                have lt_B6 := B6.lt
                have lt_B7 := B7.lt
                go_upto_region 11 with (first | rw [← zero64] | (refine wpList_load_any rfl 26 (.tmp 3) rfl _ rfl 64 26 _ (B0) _ Try.underlying26 rfl Try.size26 ?_) | (refine wpList_load_any rfl 26 (.tmp 8) rfl _ rfl 64 26 _ (B5) _ Try.underlying26 rfl Try.size26 ?_) | (go_at_call 142; refine (HDV.out _).mono ?_; rintro e W7 ⟨rfl, hW7⟩; replace B0 := B0.below hW7 B0.lt; replace B5 := B5.below hW7 B5.lt; replace B6 := B6.below hW7 B6.lt; replace B7 := B7.below hW7 B7.lt; replace hb := (hb).trans (hW7.mono (hb).size)) | (refine wpList_store_blk rfl 26 (.tmp 10) (.tmp 53) rfl _ 64 (quoP p Z (ofN p x)) rfl rfl 26 _ (((Blk.new W7 64 26 (fun _ => 0)).alloc (.cells (bcells 64 fun _ => 0) 26))) Try.size26 ?_; try simp only [Act.put]) | (refine wpList_store_blk rfl 26 (.tmp 11) (.tmp 54) rfl _ 64 (resP p Z (ofN p x)) rfl rfl 26 _ (((show Blk ((W7.alloc (.cells (bcells 64 fun _ => 0) 26)).alloc (.cells (bcells 64 fun _ => 0) 26)) (W7.heap.size + 1) 64 26 (fun _ => 0) by have := Blk.new (W7.alloc (.cells (bcells 64 fun _ => 0) 26)) 64 26 (fun _ => 0); simpa using this).rowOther (by omega))) Try.size26 ?_; try simp only [Act.put]))
                have lt_B0 := B0.lt
                have lt_B5 := B5.lt
                have lt_B6 := B6.lt
                have lt_B7 := B7.lt
                have lhb := hb.size
                have qB0 : Blk ((((W7.alloc (.cells (bcells 64 fun _ => 0) 26)).alloc (.cells (bcells 64 fun _ => 0) 26)).setRow (W7.heap.size) (bcells 64 (quoP p Z (ofN p x)))).setRow (W7.heap.size + 1) (bcells 64 (resP p Z (ofN p x)))) (w.heap.size) 64 26 (Z) := ((((B0.alloc (.cells (bcells 64 fun _ => 0) 26)).alloc (.cells (bcells 64 fun _ => 0) 26)).rowOther (by omega)).rowOther (by omega))
                have qB5 : Blk ((((W7.alloc (.cells (bcells 64 fun _ => 0) 26)).alloc (.cells (bcells 64 fun _ => 0) 26)).setRow (W7.heap.size) (bcells 64 (quoP p Z (ofN p x)))).setRow (W7.heap.size + 1) (bcells 64 (resP p Z (ofN p x)))) (N1) 64 26 (ofN p x) := ((((B5.alloc (.cells (bcells 64 fun _ => 0) 26)).alloc (.cells (bcells 64 fun _ => 0) 26)).rowOther (by omega)).rowOther (by omega))
                have qB6 : SlT ((((W7.alloc (.cells (bcells 64 fun _ => 0) 26)).alloc (.cells (bcells 64 fun _ => 0) 26)).setRow (W7.heap.size) (bcells 64 (quoP p Z (ofN p x)))).setRow (W7.heap.size + 1) (bcells 64 (resP p Z (ofN p x)))) base wr.heap.size 102 65 lst2 (facRows p (LL ++ LJ)) := ((((B6.alloc (.cells (bcells 64 fun _ => 0) 26)).alloc (.cells (bcells 64 fun _ => 0) 26)).rowOther (by omega)).rowOther (by omega))
                have qB7 : SzG wr.heap.size ((((W7.alloc (.cells (bcells 64 fun _ => 0) 26)).alloc (.cells (bcells 64 fun _ => 0) 26)).setRow (W7.heap.size) (bcells 64 (quoP p Z (ofN p x)))).setRow (W7.heap.size + 1) (bcells 64 (resP p Z (ofN p x)))) := ((((B7.alloc (.cells (bcells 64 fun _ => 0) 26)).alloc (.cells (bcells 64 fun _ => 0) 26)).rowOther (by omega)).rowOther (by omega))
                have qB8 : Blk ((((W7.alloc (.cells (bcells 64 fun _ => 0) 26)).alloc (.cells (bcells 64 fun _ => 0) 26)).setRow (W7.heap.size) (bcells 64 (quoP p Z (ofN p x)))).setRow (W7.heap.size + 1) (bcells 64 (resP p Z (ofN p x)))) (W7.heap.size) 64 26 (quoP p Z (ofN p x)) := ((((Blk.new W7 64 26 (fun _ => 0)).alloc (.cells (bcells 64 fun _ => 0) 26)).row (quoP p Z (ofN p x))).rowOther (by omega))
                have qB9 : Blk ((((W7.alloc (.cells (bcells 64 fun _ => 0) 26)).alloc (.cells (bcells 64 fun _ => 0) 26)).setRow (W7.heap.size) (bcells 64 (quoP p Z (ofN p x)))).setRow (W7.heap.size + 1) (bcells 64 (resP p Z (ofN p x)))) (W7.heap.size + 1) 64 26 (resP p Z (ofN p x)) := (((show Blk ((W7.alloc (.cells (bcells 64 fun _ => 0) 26)).alloc (.cells (bcells 64 fun _ => 0) 26)) (W7.heap.size + 1) 64 26 (fun _ => 0) by have := Blk.new (W7.alloc (.cells (bcells 64 fun _ => 0) 26)) 64 26 (fun _ => 0); simpa using this).rowOther (by omega)).row (resP p Z (ofN p x)))
                have qhb : Below w.heap.size w ((((W7.alloc (.cells (bcells 64 fun _ => 0) 26)).alloc (.cells (bcells 64 fun _ => 0) 26)).setRow (W7.heap.size) (bcells 64 (quoP p Z (ofN p x)))).setRow (W7.heap.size + 1) (bcells 64 (resP p Z (ofN p x)))) := (below_row (below_row ((hb.alloc (by have := hb.size; simp; omega) (.cells (bcells 64 fun _ => 0) 26)).alloc (by have := hb.size; simp; omega) (.cells (bcells 64 fun _ => 0) 26)) (by omega) _) (by omega) _)
                obtain ⟨W8, hwo⟩ : ∃ v : World, v = ((((W7.alloc (.cells (bcells 64 fun _ => 0) 26)).alloc (.cells (bcells 64 fun _ => 0) 26)).setRow (W7.heap.size) (bcells 64 (quoP p Z (ofN p x)))).setRow (W7.heap.size + 1) (bcells 64 (resP p Z (ofN p x)))) := ⟨_, rfl⟩
                rw [← hwo] at qB0 qB5 qB6 qB7 qB8 qB9 qhb ⊢
                clear hwo
                clear B0 B5 B6 B7 hb
                have B0 := qB0
                have B5 := qB5
                have B6 := qB6
                have B7 := qB7
                have B8 := qB8
                have B9 := qB9
                have hb := qhb
                clear qB0 qB5 qB6 qB7 qB8 qB9 qhb
                obtain ⟨N2, hNN⟩ : ∃ n : Nat, n = W7.heap.size := ⟨_, rfl⟩
                rw [← hNN] at lt_B0 lt_B5 lt_B6 lt_B7 lhb B8 B9 ⊢
                clear hNN
                have zN2_0 := lt_B0
                have zN2_5 := lt_B5
                have zN2_6 := lt_B6
                have zN2_7 := lt_B7
                have zN2 := lhb
                clear lt_B0 lt_B5 lt_B6 lt_B7 lhb
                try simp only [Act.put, List.setIfInBounds_toArray, List.set_cons_zero, List.set_cons_succ]
                clear HDV
                by_cases hz : deg (resP p Z (ofN p x)) < 0
                · have HV := Lib.hid (show dvo p (ofN p x) 64 Y = ((dvo p (ofN p x) fu2 (quoP p Z (ofN p x))).1 + (i0 + 1), (dvo p (ofN p x) fu2 (quoP p Z (ofN p x))).2) by
                    rw [hDE.out, dvo_yes hz]; congr 1; omega)
                  obtain ⟨hq0, hqd⟩ := quo_nz hpr hZ.out (fun k _ => ofN_lt p0 x k) HMX.out hZ0 hz
                  clear hDE
                  have hgd := Try.noGuard26
                  have heq := fun W => run_equalIn_bytes (P := Try.prog) W 9998 26 5 64 (resP p Z (ofN p x)) (fun _ => 0) Try.underlying26 Try.underlying5 Try.size5
                  rw [eqN_zero, show decide (deg (resP p Z (ofN p x)) < 0) = true by simp [hz]] at heq
                  simp only [zero64] at heq
                  go_upto_region 12 with (first | (refine wpList_load_any rfl 26 (.tmp 11) rfl _ rfl 64 26 _ (B9) _ Try.underlying26 rfl Try.size26 ?_))
                  clear heq hgd hz
                  have lt_B0 := B0.lt
                  have lt_B5 := B5.lt
                  have lt_B6 := B6.lt
                  have lt_B7 := B7.lt
                  have lt_B8 := B8.lt
                  have lt_B9 := B9.lt
                  go_upto_region 13 with (first | rw [← zero64] | (refine wpList_load_any rfl 26 (.tmp 10) rfl _ rfl 64 26 _ (B8) _ Try.underlying26 rfl Try.size26 ?_) | (refine wpList_store_blk rfl 26 (.tmp 3) (.tmp 58) rfl _ 64 (quoP p Z (ofN p x)) rfl rfl 26 _ (B0) Try.size26 ?_; try simp only [Act.put]))
                  have qB0 : Blk (W8.setRow (w.heap.size) (bcells 64 (quoP p Z (ofN p x)))) (w.heap.size) 64 26 (quoP p Z (ofN p x)) := (B0.row (quoP p Z (ofN p x)))
                  have qB5 : Blk (W8.setRow (w.heap.size) (bcells 64 (quoP p Z (ofN p x)))) (N1) 64 26 (ofN p x) := (B5.rowOther (by omega))
                  have qB6 : SlT (W8.setRow (w.heap.size) (bcells 64 (quoP p Z (ofN p x)))) base wr.heap.size 102 65 lst2 (facRows p (LL ++ LJ)) := (B6.rowOther (by omega))
                  have qB7 : SzG wr.heap.size (W8.setRow (w.heap.size) (bcells 64 (quoP p Z (ofN p x)))) := (B7.rowOther (by omega))
                  have qB8 : Blk (W8.setRow (w.heap.size) (bcells 64 (quoP p Z (ofN p x)))) (N2) 64 26 (quoP p Z (ofN p x)) := (B8.rowOther (by omega))
                  have qB9 : Blk (W8.setRow (w.heap.size) (bcells 64 (quoP p Z (ofN p x)))) (N2 + 1) 64 26 (resP p Z (ofN p x)) := (B9.rowOther (by omega))
                  have qhb : Below w.heap.size w (W8.setRow (w.heap.size) (bcells 64 (quoP p Z (ofN p x)))) := (below_row hb (by omega) _)
                  obtain ⟨W9, hwo⟩ : ∃ v : World, v = (W8.setRow (w.heap.size) (bcells 64 (quoP p Z (ofN p x)))) := ⟨_, rfl⟩
                  rw [← hwo] at qB0 qB5 qB6 qB7 qB8 qB9 qhb ⊢
                  clear hwo
                  clear B0 B5 B6 B7 B8 B9 hb
                  have B0 := qB0
                  have B5 := qB5
                  have B6 := qB6
                  have B7 := qB7
                  have B8 := qB8
                  have B9 := qB9
                  have hb := qhb
                  clear qB0 qB5 qB6 qB7 qB8 qB9 qhb
                  try simp only [Act.put, List.setIfInBounds_toArray, List.set_cons_zero, List.set_cons_succ]
                  go_wp2_with fail
                  go_roundw
                  case rel => exact ⟨fu2, i0 + 1, quoP p Z (ofN p x), by have := HF2.out; omega, by go_num, HV, Lib.hid (fun k _ => quoP_lt p0 k), hq0, by omega, hb, B0, B5, B6.1, by have := B7.lt; omega⟩
                  case measure => simp [intOf] <;> omega
                · have HV := Lib.hid (show dvo p (ofN p x) 64 Y = (i0, Z) by rw [hDE.out, dvo_stop hz]; simp)
                  clear hDE
                  have hgd := Try.noGuard26
                  have heq := fun W => run_equalIn_bytes (P := Try.prog) W 9998 26 5 64 (resP p Z (ofN p x)) (fun _ => 0) Try.underlying26 Try.underlying5 Try.size5
                  rw [eqN_zero, show decide (deg (resP p Z (ofN p x)) < 0) = false by simp [hz]] at heq
                  simp only [zero64] at heq
                  go_upto_region 14 with (first | (refine wpList_load_any rfl 26 (.tmp 11) rfl _ rfl 64 26 _ (B9) _ Try.underlying26 rfl Try.size26 ?_))
                  clear heq hgd hz
                  rw [HV.out] at HSN HD1 d2 d3
                  by_cases hi0 : 0 < i0
                  · have hi1 : 0 < (i0 : Int) := by omega
                    have HSX := Lib.hid (show spI p (n + 1) (List.range' q (j + 1)) X = (LJ ++ [(x, i0)], Z) by rw [HSN.out]; unfold spN; rw [HV.out, if_pos hi0])
                    clear hi0 HSN
                    go_upto_region 15 with (fail)
                    have lu_0 := B0.lt
                    have lu_5 := B5.lt
                    have lu_6 := B6.lt
                    have lu_7 := B7.lt
                    have lu_8 := B8.lt
                    have lu_9 := B9.lt
                    go_wp2_with (first | (refine wpList_load_any rfl 26 (.tmp 8) rfl _ rfl 64 26 _ B5 _ Try.underlying26 rfl Try.size26 ?_) | (refine wpList_build_of rfl 102 _ rfl (facC (ofN p x) i0).toArray (by rw [Array.toList_map]; exact built_fac2 _ _) ?_) | (refine wpList_build1 rfl 49 _ (facC (ofN p x) i0) 65 rfl 102 Try.underlying49 Try.elemFac (by decide) (by decide) (facC_len _ _) rfl ?_; intro wa hps hba; have eB0 := B0.below hba B0.lt; have eB5 := B5.below hba B5.lt; have eB6 := B6.below hba B6.lt; have eB7 := B7.below hba B7.lt; have eB8 := B8.below hba B8.lt; have eB9 := B9.below hba B9.lt; have ehb := hb.trans (hba.mono hb.size)) | (at_builtin; refine wpList_append_sl _ rfl _ _ 49 rfl base 102 (.agg (facC (fun _ => 0) 0).toArray) 65 72 Try.underlying49 Try.infoFac (by simp [Value.cells, facC_len]) (by decide) lst2 _ rfl eB6.1 W8.heap.size (facC (ofN p x) i0) rfl (facC_len _ _) hps.range (facC_one _ _) (by rw [facRows_len, List.length_append]; unfold maxLen; omega) (by rw [facRows_len, List.length_append]; omega) ?_; intro vp wp hSp hg1; have fB0 := eB0.grownO hg1 (eB6.1.own) (base := base) (by omega); have fhb := ehb.grown hg1 ehb.size (fun k e => Nat.le_trans ybw (eB6.1.own k e))))
                    go_roundw
                    case rel => exact ⟨j + 1, Z, LJ ++ [(x, i0)], vp, rfl, by omega, by go_num, HSX, by simp; omega, HD1, d2, by have : deg Z ≤ deg Y := d3; omega, fhb, fB0, (by rw [← List.append_assoc, facRows_snoc]; exact hSp)⟩
                    case measure => simp [intOf] <;> omega
                  · have hi1 : ¬ 0 < (i0 : Int) := by omega
                    have HSX := Lib.hid (show spI p (n + 1) (List.range' q (j + 1)) X = (LJ, Z) by rw [HSN.out]; unfold spN; rw [HV.out, if_neg hi0, List.append_nil])
                    clear hi0 HSN
                    go_wp2_with fail
                    go_roundw
                    case rel => exact ⟨j + 1, Z, LJ, lst2, rfl, by omega, by go_num, HSX, by omega, HD1, d2, by have : deg Z ≤ deg Y := d3; omega, hb, B0, B6.1⟩
                    case measure => simp [intOf] <;> omega
              · have hge2 : deg Z < (n : Int) + 1 := by omega
                have HV := Lib.hid (show dvo p (ofN p x) 64 Y = (i0, Z) by
                  rw [hDE.out, dvo_stop (by rw [deg_congr (f := resP p Z (ofN p x)) (g := Z) (fun k hk => resP_small p0 hZ.out (by rw [HDX.out]; omega) k hk)]; omega)]; simp)
                clear hDE hge
                go_upto_region 14 with (first | (refine wpList_load_any rfl 26 (.tmp 3) rfl _ rfl 64 26 _ (B0) _ Try.underlying26 rfl Try.size26 ?_) | (go_at_call 77; refine (l01Deg_any Z _).mono ?_; rintro e W6 ⟨rfl, hW6⟩; replace B0 := B0.below hW6 B0.lt; replace B5 := B5.below hW6 B5.lt; replace B6 := B6.below hW6 B6.lt; replace B7 := B7.below hW6 B7.lt; replace hb := (hb).trans (hW6.mono (hb).size)))
                rw [HV.out] at HSN HD1 d2 d3
                by_cases hi0 : 0 < i0
                · have hi1 : 0 < (i0 : Int) := by omega
                  have HSX := Lib.hid (show spI p (n + 1) (List.range' q (j + 1)) X = (LJ ++ [(x, i0)], Z) by rw [HSN.out]; unfold spN; rw [HV.out, if_pos hi0])
                  clear hi0 HSN
                  go_upto_region 15 with (fail)
                  have lu_0 := B0.lt
                  have lu_5 := B5.lt
                  have lu_6 := B6.lt
                  have lu_7 := B7.lt
                  go_wp2_with (first | (refine wpList_load_any rfl 26 (.tmp 8) rfl _ rfl 64 26 _ B5 _ Try.underlying26 rfl Try.size26 ?_) | (refine wpList_build_of rfl 102 _ rfl (facC (ofN p x) i0).toArray (by rw [Array.toList_map]; exact built_fac2 _ _) ?_) | (refine wpList_build1 rfl 49 _ (facC (ofN p x) i0) 65 rfl 102 Try.underlying49 Try.elemFac (by decide) (by decide) (facC_len _ _) rfl ?_; intro wa hps hba; have eB0 := B0.below hba B0.lt; have eB5 := B5.below hba B5.lt; have eB6 := B6.below hba B6.lt; have eB7 := B7.below hba B7.lt; have ehb := hb.trans (hba.mono hb.size)) | (at_builtin; refine wpList_append_sl _ rfl _ _ 49 rfl base 102 (.agg (facC (fun _ => 0) 0).toArray) 65 72 Try.underlying49 Try.infoFac (by simp [Value.cells, facC_len]) (by decide) lst2 _ rfl eB6.1 W6.heap.size (facC (ofN p x) i0) rfl (facC_len _ _) hps.range (facC_one _ _) (by rw [facRows_len, List.length_append]; unfold maxLen; omega) (by rw [facRows_len, List.length_append]; omega) ?_; intro vp wp hSp hg1; have fB0 := eB0.grownO hg1 (eB6.1.own) (base := base) (by omega); have fhb := ehb.grown hg1 ehb.size (fun k e => Nat.le_trans ybw (eB6.1.own k e))))
                  go_roundw
                  case rel => exact ⟨j + 1, Z, LJ ++ [(x, i0)], vp, rfl, by omega, by go_num, HSX, by simp; omega, HD1, d2, by have : deg Z ≤ deg Y := d3; omega, fhb, fB0, (by rw [← List.append_assoc, facRows_snoc]; exact hSp)⟩
                  case measure => simp [intOf] <;> omega
                · have hi1 : ¬ 0 < (i0 : Int) := by omega
                  have HSX := Lib.hid (show spI p (n + 1) (List.range' q (j + 1)) X = (LJ, Z) by rw [HSN.out]; unfold spN; rw [HV.out, if_neg hi0, List.append_nil])
                  clear hi0 HSN
                  go_wp2_with fail
                  go_roundw
                  case rel => exact ⟨j + 1, Z, LJ, lst2, rfl, by omega, by go_num, HSX, by omega, HD1, d2, by have : deg Z ≤ deg Y := d3; omega, hb, B0, B6.1⟩
                  case measure => simp [intOf] <;> omega
          · 
            have HSF := Lib.hid (show spI p (n + 1) (monL p (n + 1)) X = (LJ, Y) by unfold monL; rw [← HQ.out, show List.range' q q = List.range' q j ++ List.range' (q + j) (q - j) by rw [List.range'_append_1]; congr 1; omega, spI_more _ _ (by rw [hSI.out]; push_cast; exact hdY)]; exact hSI.out)
            have HEN := Lib.hid (show spO p 64 1 f = ((LL ++ LJ) ++ (spO p fu (n + 1 + 1) Y).1, (spO p fu (n + 1 + 1) Y).2) by rw [hE.out, HSS.out, HSF.out, List.append_assoc])
            have hLb : (LL ++ LJ).length ≤ (n + 1) * 13841287202 := by rw [List.length_append]; omega
            clear hSI hE
            have B3 := hS.top
            have B4 : SzG wr.heap.size wr := Nat.le_refl _
            clear hS
            go_upto_region 4 with (first | (go_at_call 91; refine (HCQ.out _).mono ?_; rintro e wS ⟨rfl, rfl⟩) | (refine wpList_load_any_g rfl 26 (.tmp 3) rfl _ rfl 64 26 _ (B0) _ Try.underlying26 rfl Try.size26 ?_) | (go_at_call 77; refine (l01Deg_any Y _).mono ?_; rintro e W3 ⟨rfl, hW3⟩; replace B0 := B0.below hW3 B0.lt; replace B3 := B3.below hW3 B3.lt; replace B4 := B4.below hW3 B4.lt; replace hb := (hb).trans (hW3.mono (hb).size)))
            go_wp2_with fail
            go_roundw
            case rel => exact ⟨fu, n + 1, Y, LL ++ LJ, lst2, rfl, by have := HFU.out; omega, by go_num, HEN, hY, hY0, hY12, hLb, hb, B0, B3.1⟩
            case measure => simp [intOf] <;> omega
        · have hjq2 : j = q := by omega
          have hcj : ¬ (q : Int) + (j : Int) < 2 * (q : Int) := by omega
          clear hj
          have HSF := Lib.hid (show spI p (n + 1) (monL p (n + 1)) X = (LJ, Y) by unfold monL; rw [← HQ.out]; have := hSI.out; rw [hjq2] at this; exact this)
          have HEN := Lib.hid (show spO p 64 1 f = ((LL ++ LJ) ++ (spO p fu (n + 1 + 1) Y).1, (spO p fu (n + 1 + 1) Y).2) by rw [hE.out, HSS.out, HSF.out, List.append_assoc])
          have hLb : (LL ++ LJ).length ≤ (n + 1) * 13841287202 := by rw [List.length_append]; omega
          clear hSI hE
          have B3 := hS.top
          have B4 : SzG wr.heap.size wr := Nat.le_refl _
          clear hS
          go_upto_region 4 with (first | (go_at_call 91; refine (HCQ.out _).mono ?_; rintro e wS ⟨rfl, rfl⟩))
          go_wp2_with fail
          go_roundw
          case rel => exact ⟨fu, n + 1, Y, LL ++ LJ, lst2, rfl, by have := HFU.out; omega, by go_num, HEN, hY, hY0, hY12, hLb, hb, B0, B3.1⟩
          case measure => simp [intOf] <;> omega
    · have HR := Lib.hid (show run p 64 1 f = LL ++ finL p X ∧ ∀ x, x ∈ LL → ¬ dv p (lz (ofN p x.1)) (lz X) by
        obtain ⟨_, _, _, q4⟩ := HLEFT.out
        have e := hE.out
        rw [spO_stop (p := p) (f := fu) (n := n + 1) (a := X) (by push_cast; exact hd), List.append_nil] at e
        rw [HEND.out]
        rw [e] at q4 ⊢
        exact ⟨rfl, q4⟩)
      have hn64 : n ≤ 64 := by have := HFU.out; omega
      clear hE HEND HLEFT HFU HLF
      have B1 := hS.top
      have B2 : SzG wr.heap.size wr := Nat.le_refl _
      clear hS
      go_upto_region 16 with (first | (refine wpList_load_any rfl 26 (.tmp 3) rfl _ rfl 64 26 _ (B0) _ Try.underlying26 rfl Try.size26 ?_) | (go_at_call 77; refine (l01Deg_any X _).mono ?_; rintro e W2 ⟨rfl, hW2⟩; replace B0 := B0.below hW2 B0.lt; replace B1 := B1.below hW2 B1.lt; replace B2 := B2.below hW2 B2.lt; replace hb := (hb).trans (hW2.mono (hb).size)))
      go_upto_region 17 with (first | (refine wpList_load_any rfl 26 (.tmp 3) rfl _ rfl 64 26 _ (B0) _ Try.underlying26 rfl Try.size26 ?_) | (go_at_call 77; refine (l01Deg_any X _).mono ?_; rintro e W3 ⟨rfl, hW3⟩; replace B0 := B0.below hW3 B0.lt; replace B1 := B1.below hW3 B1.lt; replace B2 := B2.below hW3 B2.lt; replace hb := (hb).trans (hW3.mono (hb).size)))
      by_cases h0X : 0 < deg X
      · go_upto_region 18 with (fail)
        obtain ⟨D, hD⟩ : ∃ D : Nat, deg X = (D : Int) := ⟨(deg X).toNat, by omega⟩
        obtain ⟨hD6, hXD, _⟩ := deg_top hD
        obtain ⟨c, hc⟩ : ∃ c, c = X D := ⟨_, rfl⟩
        have hcp : c < p := by rw [hc]; exact hX.out D hD6
        rw [← hc] at hXD
        obtain ⟨iv1, iv2, _, _⟩ := invF hpr hXD hcp
        obtain ⟨iv, hiv⟩ : ∃ v, v = invN p c := ⟨_, rfl⟩
        have HN := Lib.hid (fun W => show Calls Try.prog 143 #[.int .i64 (p : Int), .int .u8 (c : Int)] W (fun e w' => e = .returned (.int .u8 (iv : Int)) ∧ Below W.heap.size W w') by rw [hiv]; exact (l01Inverse_any p c W hpr hXD hcp).mono (by rintro e w' ⟨rfl, rfl⟩; exact ⟨rfl, Below.refl _ _⟩))
        rw [← hiv] at iv1 iv2
        have HMP := Lib.hid (show sclP p X iv = monP p X by unfold monP; rw [hD, Int.toNat_natCast, hiv, hc])
        have HA := Lib.hid (show ∀ W, Calls Try.prog 140 #[.int .i64 (p : Int), .agg (bcells 64 fun _ => 0), .agg (bcells 64 X), .int .i64 (iv : Int)] W fun e w' => e = .returned (.agg (bcells 64 (monP p X))) ∧ Below W.heap.size W w' by
          intro W
          have := l01Add_any p (fun _ => 0) X (iv : Int) W p2 p7 (by omega) (by omega) (fun _ _ => p0) hX.out
          rwa [addK_scl, HMP.out] at this)
        have HC := Lib.hid hc
        have HRW := Lib.hid (finL_rows hpr hX.out h0X)
        have HNE := Lib.hid (fun x hx => left_ne hpr hX.out hX0 (HR.out.2 x hx))
        have HX2 := Lib.hid hD
        rw [hD] at h0X hX0 hX12
        have HD2 := Lib.hid hD
        clear hc hiv HMP
        rw [HD2.out]
        clear hD HD2 HX2
        have lt_B0 : (w.heap.size) < W3.heap.size := B0.lt
        have lt_B1 : (base) ≤ W3.heap.size := B1.lt
        have lt_B2 : (wr.heap.size) ≤ W3.heap.size := B2.lt
        have hbase : w.heap.size ≤ W3.heap.size := hb.size
        refine wp_region_steps0 Try.mixed (by kernel_rfl) (by kernel_rfl) (fun v => by (simp only [frL, Act.put, List.setIfInBounds_toArray, List.set_cons_zero, List.set_cons_succ, Nat.reduceAdd, Nat.zero_add]; exact rfl))
          (fun L v W4 => Below w.heap.size w W4 ∧ W3.heap.size ≤ W4.heap.size ∧ Blk W4 (w.heap.size) 64 26 (X) ∧ SlT W4 base wr.heap.size 102 65 lst (facRows p LL) ∧ SzG wr.heap.size W4 ∧ (L 0 = true → v 0 = (.int .i64 (p : Int))) ∧ (L 1 = true → v 1 = (.agg (bcells 64 (fun _ => 0)))) ∧ (L 2 = true → v 2 = (.agg (bcells 64 (X)))) ∧ (L 3 = true → v 3 = (.int .i64 (p : Int))) ∧ (L 4 = true → v 4 = (.int .i64 (D : Int))) ∧ (L 5 = true → v 5 = (.pointer (some ⟨w.heap.size, D, none⟩))) ∧ (L 6 = true → v 6 = (.int .u8 (c : Int))) ∧ (L 7 = true → v 7 = (.int .u8 (iv : Int))) ∧ (L 8 = true → v 8 = (.int .i64 (iv : Int))) ∧ (L 9 = true → v 9 = (.agg (bcells 64 (monP p X)))) ∧ (L 10 = true → AF (v 10) W4 W3.heap.size 64 26) ∧ (L 11 = true → PF (v 10) W4 W3.heap.size 64 26 (monP p X))) ?_ ?_ ?_
        · intro v hv0
          exact ⟨hb.drew, Nat.le_refl _, B0.drew, B1.drew, B2.drew, (fun h => by cases h), (fun h => by cases h), (fun h => by cases h), (fun h => by cases h), (fun h => by cases h), (fun h => by cases h), (fun h => by cases h), (fun h => by cases h), (fun h => by cases h), (fun h => by cases h), (fun h => by cases h), (fun h => by cases h)⟩
        · refine (.cons rfl ?_ (.cons rfl ?_ (.cons rfl ?_ (.cons rfl ?_ (.cons rfl ?_ (.cons rfl ?_ (.cons rfl ?_ (.cons rfl ?_ (.cons rfl ?_ (.cons rfl ?_ (.cons rfl ?_ (.cons rfl ?_ (.nil _)))))))))))))
          · intro L v W4 hd hn ⟨hB, hz, s0, s1, s2, h0, h1, h2, h3, h4, h5, h6, h7, h8, h9, h10, h11⟩ K hK
            go_wp2_with fail
            exact hK _ (.int .i64 (p : Int)) _ (by simp only [Act.put, List.setIfInBounds_toArray, List.set_cons_zero, List.set_cons_succ ]) ⟨hB, hz, s0, s1, s2, (fun _ => rfl), h1, h2, h3, h4, h5, h6, h7, h8, h9, h10, h11⟩
          · intro L v W4 hd hn ⟨hB, hz, s0, s1, s2, h0, h1, h2, h3, h4, h5, h6, h7, h8, h9, h10, h11⟩ K hK
            go_wp2_with fail
            rw [← zero64]
            exact hK _ (.agg (bcells 64 (fun _ => 0))) _ (by simp only [Act.put, List.setIfInBounds_toArray, List.set_cons_zero, List.set_cons_succ ]) ⟨hB, hz, s0, s1, s2, h0, (fun _ => rfl), h2, h3, h4, h5, h6, h7, h8, h9, h10, h11⟩
          · intro L v W4 hd hn ⟨hB, hz, s0, s1, s2, h0, h1, h2, h3, h4, h5, h6, h7, h8, h9, h10, h11⟩ K hK
            refine wp_load_any 26 _ rfl _ rfl 64 26 _ s0 _ Try.underlying26 rfl Try.size26 ?_
            exact hK _ _ _ rfl ⟨hB, hz, s0, s1, s2, h0, h1, (fun _ => rfl), h3, h4, h5, h6, h7, h8, h9, h10, h11⟩
          · intro L v W4 hd hn ⟨hB, hz, s0, s1, s2, h0, h1, h2, h3, h4, h5, h6, h7, h8, h9, h10, h11⟩ K hK
            go_wp2_with fail
            exact hK _ (.int .i64 (p : Int)) _ (by simp only [Act.put, List.setIfInBounds_toArray, List.set_cons_zero, List.set_cons_succ ]) ⟨hB, hz, s0, s1, s2, h0, h1, h2, (fun _ => rfl), h4, h5, h6, h7, h8, h9, h10, h11⟩
          · intro L v W4 hd hn ⟨hB, hz, s0, s1, s2, h0, h1, h2, h3, h4, h5, h6, h7, h8, h9, h10, h11⟩ K hK
            go_wp2_with fail
            exact hK _ (.int .i64 (D : Int)) _ (by simp only [Act.put, List.setIfInBounds_toArray, List.set_cons_zero, List.set_cons_succ ]) ⟨hB, hz, s0, s1, s2, h0, h1, h2, h3, (fun _ => rfl), h5, h6, h7, h8, h9, h10, h11⟩
          · intro L v W4 hd hn ⟨hB, hz, s0, s1, s2, h0, h1, h2, h3, h4, h5, h6, h7, h8, h9, h10, h11⟩ K hK
            have e4 := h4 (hd ⟨4, .data⟩ (by simp) rfl)
            go_wp2_with fail
            exact hK _ (.pointer (some ⟨w.heap.size, D, none⟩)) _ (by simp only [Act.put, List.setIfInBounds_toArray, List.set_cons_zero, List.set_cons_succ, e4]) ⟨hB, hz, s0, s1, s2, h0, h1, h2, h3, h4, (fun _ => rfl), h6, h7, h8, h9, h10, h11⟩
          · intro L v W4 hd hn ⟨hB, hz, s0, s1, s2, h0, h1, h2, h3, h4, h5, h6, h7, h8, h9, h10, h11⟩ K hK
            have e5 := h5 (hd ⟨5, .data⟩ (by simp) rfl)
            have cc := s0.cell (i := D) hD6
            rw [← HC.out] at cc
            go_wp2_with fail
            exact hK _ (.int .u8 (c : Int)) _ (by simp only [Act.put, List.setIfInBounds_toArray, List.set_cons_zero, List.set_cons_succ, e5]) ⟨hB, hz, s0, s1, s2, h0, h1, h2, h3, h4, h5, (fun _ => rfl), h7, h8, h9, h10, h11⟩
          · intro L v W4 hd hn ⟨hB, hz, s0, s1, s2, h0, h1, h2, h3, h4, h5, h6, h7, h8, h9, h10, h11⟩ K hK
            have e3 := h3 (hd ⟨3, .data⟩ (by simp) rfl)
            have e6 := h6 (hd ⟨6, .data⟩ (by simp) rfl)
            go_wp2_with (go_at_call 143; refine (HN.out _).mono ?_; rintro e wy ⟨rfl, hy⟩)
            exact hK _ (.int .u8 (iv : Int)) _ (by simp only [Act.put, List.setIfInBounds_toArray, List.set_cons_zero, List.set_cons_succ, e3, e6]) ⟨hB.trans (hy.mono hB.size), (Nat.le_trans hz hy.size), (s0).below hy (s0).lt, (s1).below hy (s1).lt, (s2).below hy (s2).lt, h0, h1, h2, h3, h4, h5, h6, (fun _ => rfl), h8, h9, (fun h => (h10 h).below hy), (fun h => (h11 h).below hy)⟩
          · intro L v W4 hd hn ⟨hB, hz, s0, s1, s2, h0, h1, h2, h3, h4, h5, h6, h7, h8, h9, h10, h11⟩ K hK
            have e7 := h7 (hd ⟨7, .data⟩ (by simp) rfl)
            go_wp2_with fail
            exact hK _ (.int .i64 (iv : Int)) _ (by simp only [Act.put, List.setIfInBounds_toArray, List.set_cons_zero, List.set_cons_succ, e7]) ⟨hB, hz, s0, s1, s2, h0, h1, h2, h3, h4, h5, h6, h7, (fun _ => rfl), h9, h10, h11⟩
          · intro L v W4 hd hn ⟨hB, hz, s0, s1, s2, h0, h1, h2, h3, h4, h5, h6, h7, h8, h9, h10, h11⟩ K hK
            have e0 := h0 (hd ⟨0, .data⟩ (by simp) rfl)
            have e1 := h1 (hd ⟨1, .data⟩ (by simp) rfl)
            have e2 := h2 (hd ⟨2, .data⟩ (by simp) rfl)
            have e8 := h8 (hd ⟨8, .data⟩ (by simp) rfl)
            go_wp2_with (go_at_call 140; refine (HA.out _).mono ?_; rintro e wy ⟨rfl, hy⟩)
            exact hK _ (.agg (bcells 64 (monP p X))) _ (by simp only [Act.put, List.setIfInBounds_toArray, List.set_cons_zero, List.set_cons_succ, e0, e1, e2, e8]) ⟨hB.trans (hy.mono hB.size), (Nat.le_trans hz hy.size), (s0).below hy (s0).lt, (s1).below hy (s1).lt, (s2).below hy (s2).lt, h0, h1, h2, h3, h4, h5, h6, h7, h8, (fun _ => rfl), (fun h => (h10 h).below hy), (fun h => (h11 h).below hy)⟩
          · intro L v W4 hd hn ⟨hB, hz, s0, s1, s2, h0, h1, h2, h3, h4, h5, h6, h7, h8, h9, h10, h11⟩ K hK
            go_wp2_with fail
            rw [← zero64]
            exact hK _ (.pointer (some ⟨W4.heap.size, 0, none⟩)) _ (by simp only [Act.put, List.setIfInBounds_toArray, List.set_cons_zero, List.set_cons_succ ]) ⟨hB.alloc hB.size _, (by simp; omega), (s0).alloc _, (s1).alloc _, (s2).alloc _, h0, h1, h2, h3, h4, h5, h6, h7, h8, h9, (fun _ => (PF.new W4 64 26 _ hz).af), (fun h => absurd rfl (hn 11 _ rfl h ⟨10, .data⟩ (by simp) rfl))⟩
          · intro L v W4 hd hn ⟨hB, hz, s0, s1, s2, h0, h1, h2, h3, h4, h5, h6, h7, h8, h9, h10, h11⟩ K hK
            have e9 := h9 (hd ⟨9, .data⟩ (by simp) rfl)
            obtain ⟨gz, b, ea, hN, hk⟩ := (h10 (hd ⟨10, .data⟩ (by simp) rfl)).out
            refine wp_store_blk 26 _ _ rfl b 64 (monP p X) ea e9 26 gz hk Try.size26 ?_
            exact hK _ undef _ rfl ⟨below_row hB (Nat.le_trans hbase hN) _, (by simpa [World.setRow] using hz), (s0).rowOther (by omega), (s1).rowOther (by omega), (s2).rowOther (by omega), h0, h1, h2, h3, h4, h5, h6, h7, h8, h9, (fun h => (h10 h).row hk), (fun _ => by rw [show updV v 11 undef 10 = v 10 from rfl, ea]; exact PF.row hk hN _)⟩
        · intro L v W4 hL ⟨hB, hz, s0, s1, s2, h0, h1, h2, h3, h4, h5, h6, h7, h8, h9, h10, h11⟩
          have e0 := h0 (hL 0 (by decide))
          have e1 := h1 (hL 1 (by decide))
          have e2 := h2 (hL 2 (by decide))
          have e3 := h3 (hL 3 (by decide))
          have e4 := h4 (hL 4 (by decide))
          have e5 := h5 (hL 5 (by decide))
          have e6 := h6 (hL 6 (by decide))
          have e7 := h7 (hL 7 (by decide))
          have e8 := h8 (hL 8 (by decide))
          have e9 := h9 (hL 9 (by decide))
          obtain ⟨k18_10, e10, hNk18_10, hk18_10⟩ := (h11 (hL 11 (by decide))).out
          clear hL h0 h1 h2 h3 h4 h5 h6 h7 h8 h9 h10 h11
          simp only [Exit.then, e0, e1, e2, e3, e4, e5, e6, e7, e8, e9, e10]
          clear e0 e1 e2 e3 e4 e5 e6 e7 e8 e9 e10
          clear B0
          have B0 := s0
          clear s0
          clear B1
          have B1 := s1
          clear s1
          clear B2
          have B2 := s2
          clear s2
          clear hb
          have hb := hB
          clear hB
          have B3 := hk18_10
          clear hk18_10
          have zk18_10_0 : w.heap.size < k18_10 := by omega
          have zk18_10_1 : base ≤ k18_10 := by omega
          have zk18_10_2 : wr.heap.size ≤ k18_10 := by omega
          clear hbase hz lt_B0 lt_B1 lt_B2
          go_upto_region 19 with (fail)
          clear HN HA HC
          rcases List.eq_nil_or_concat LL with rfl | ⟨LI, x, rfl⟩
          · have hLq : ([] : List (Nat × Nat)).length ≤ n * 13841287202 := hLL
            obtain ⟨a0, cap0, rfl⟩ : ∃ a cap, lst = .slice a 0 cap := by
              rcases B1.1.shape with ⟨h1, _⟩ | ⟨g, cap, h1⟩
              · exact ⟨_, _, h1⟩
              · exact ⟨_, _, by rw [h1]; unfold facRows; rfl⟩
            go_upto_region 20 with (fail)
            refine wp_region_stepsG Try.mixed (by kernel_rfl) (by kernel_rfl) (fun v => by (simp only [frL, Act.put, List.setIfInBounds_toArray, List.set_cons_zero, List.set_cons_succ, Nat.reduceAdd, Nat.zero_add]; exact rfl))
              (fun L v wx => Below w.heap.size w wx ∧ Blk wx (k18_10) 64 26 (monP p X) ∧ SlT wx base wr.heap.size 102 65 (.slice a0 0 cap0) (facRows p []) ∧ (L 0 = true → v 0 = (.int .i64 (-1))) ∧ (L 1 = true → v 1 = (.bool false)) ∧ (L 2 = true → v 2 = (.bool false)) ∧ (L 3 = true → v 3 = undef) ∧ (L 4 = true → v 4 = undef) ∧ (L 5 = true → v 5 = undef) ∧ (L 6 = true → v 6 = undef) ∧ (L 7 = true → v 7 = undef) ∧ (L 8 = true → v 8 = undef) ∧ (L 9 = true → v 9 = undef) ∧ (L 10 = true → v 10 = (.bool false))) ?_ ?_ ?_
            · intro v hv0
              exact ⟨hb.drew, B3.drew, B1.drew, (fun h => by cases h), (fun h => by cases h), (fun h => by cases h), (fun h => by cases h), (fun h => by cases h), (fun h => by cases h), (fun h => by cases h), (fun h => by cases h), (fun h => by cases h), (fun h => by cases h), (fun h => by cases h)⟩
            · refine (.cons ?_ (.cons ?_ (.cons ?_ (.cons ?_ (.cons ?_ (.cons ?_ (.cons ?_ (.cons ?_ (.cons ?_ (.cons ?_ (.cons ?_ (.nil _))))))))))))
              · intro L v wx hd hn ⟨hB, s0, s1, h0, h1, h2, h3, h4, h5, h6, h7, h8, h9, h10⟩ K hK
                rw [if_pos (by simp [Region.wanted])]
                go_wp2_with fail
                exact hK _ (.int .i64 (-1)) _ (by simp only [Act.put, List.setIfInBounds_toArray, List.set_cons_zero, List.set_cons_succ]) ⟨hB, s0, s1, (fun _ => rfl), h1, h2, h3, h4, h5, h6, h7, h8, h9, h10⟩
              · intro L v wx hd hn ⟨hB, s0, s1, h0, h1, h2, h3, h4, h5, h6, h7, h8, h9, h10⟩ K hK
                have e0 := h0 (hd ⟨0, .data⟩ (by simp) rfl)
                rw [if_pos (by simp [Region.wanted])]
                go_wp2_with fail
                exact hK _ (.bool false) _ (by simp only [Act.put, List.setIfInBounds_toArray, List.set_cons_zero, List.set_cons_succ, e0]) ⟨hB, s0, s1, h0, (fun _ => rfl), h2, h3, h4, h5, h6, h7, h8, h9, h10⟩
              · intro L v wx hd hn ⟨hB, s0, s1, h0, h1, h2, h3, h4, h5, h6, h7, h8, h9, h10⟩ K hK
                have e1 := h1 (hd ⟨1, .data⟩ (by simp) rfl)
                rw [if_pos (by simp [Region.wanted])]
                go_wp2_with fail
                exact hK _ (.bool false) _ (by simp only [Act.put, List.setIfInBounds_toArray, List.set_cons_zero, List.set_cons_succ, e1]) ⟨hB, s0, s1, h0, h1, (fun _ => rfl), h3, h4, h5, h6, h7, h8, h9, h10⟩
              · intro L v wx hd hn ⟨hB, s0, s1, h0, h1, h2, h3, h4, h5, h6, h7, h8, h9, h10⟩ K hK
                have e2 := h2 (hd ⟨2, .guard⟩ (by simp) rfl)
                rw [if_neg (by simp [Region.wanted, yielded, e2])]
                exact hK _ undef _ rfl ⟨hB, s0, s1, h0, h1, h2, (fun _ => rfl), h4, h5, h6, h7, h8, h9, h10⟩
              · intro L v wx hd hn ⟨hB, s0, s1, h0, h1, h2, h3, h4, h5, h6, h7, h8, h9, h10⟩ K hK
                have e2 := h2 (hd ⟨2, .guard⟩ (by simp) rfl)
                rw [if_neg (by simp [Region.wanted, yielded, e2])]
                exact hK _ undef _ rfl ⟨hB, s0, s1, h0, h1, h2, h3, (fun _ => rfl), h5, h6, h7, h8, h9, h10⟩
              · intro L v wx hd hn ⟨hB, s0, s1, h0, h1, h2, h3, h4, h5, h6, h7, h8, h9, h10⟩ K hK
                have e3 := h3 (hd ⟨3, .data⟩ (by simp) rfl)
                have e4 := h4 (hd ⟨4, .data⟩ (by simp) rfl)
                have e2 := h2 (hd ⟨2, .guard⟩ (by simp) rfl)
                rw [if_neg (by simp [Region.wanted, yielded, e2])]
                exact hK _ undef _ rfl ⟨hB, s0, s1, h0, h1, h2, h3, h4, (fun _ => rfl), h6, h7, h8, h9, h10⟩
              · intro L v wx hd hn ⟨hB, s0, s1, h0, h1, h2, h3, h4, h5, h6, h7, h8, h9, h10⟩ K hK
                have e5 := h5 (hd ⟨5, .data⟩ (by simp) rfl)
                have e2 := h2 (hd ⟨2, .guard⟩ (by simp) rfl)
                rw [if_neg (by simp [Region.wanted, yielded, e2])]
                exact hK _ undef _ rfl ⟨hB, s0, s1, h0, h1, h2, h3, h4, h5, (fun _ => rfl), h7, h8, h9, h10⟩
              · intro L v wx hd hn ⟨hB, s0, s1, h0, h1, h2, h3, h4, h5, h6, h7, h8, h9, h10⟩ K hK
                have e6 := h6 (hd ⟨6, .data⟩ (by simp) rfl)
                have e2 := h2 (hd ⟨2, .guard⟩ (by simp) rfl)
                rw [if_neg (by simp [Region.wanted, yielded, e2])]
                exact hK _ undef _ rfl ⟨hB, s0, s1, h0, h1, h2, h3, h4, h5, h6, (fun _ => rfl), h8, h9, h10⟩
              · intro L v wx hd hn ⟨hB, s0, s1, h0, h1, h2, h3, h4, h5, h6, h7, h8, h9, h10⟩ K hK
                have e2 := h2 (hd ⟨2, .guard⟩ (by simp) rfl)
                rw [if_neg (by simp [Region.wanted, yielded, e2])]
                exact hK _ undef _ rfl ⟨hB, s0, s1, h0, h1, h2, h3, h4, h5, h6, h7, (fun _ => rfl), h9, h10⟩
              · intro L v wx hd hn ⟨hB, s0, s1, h0, h1, h2, h3, h4, h5, h6, h7, h8, h9, h10⟩ K hK
                have e7 := h7 (hd ⟨7, .data⟩ (by simp) rfl)
                have e8 := h8 (hd ⟨8, .data⟩ (by simp) rfl)
                have e2 := h2 (hd ⟨2, .guard⟩ (by simp) rfl)
                rw [if_neg (by simp [Region.wanted, yielded, e2])]
                exact hK _ undef _ rfl ⟨hB, s0, s1, h0, h1, h2, h3, h4, h5, h6, h7, h8, (fun _ => rfl), h10⟩
              · intro L v wx hd hn ⟨hB, s0, s1, h0, h1, h2, h3, h4, h5, h6, h7, h8, h9, h10⟩ K hK
                have e2 := h2 (hd ⟨2, .data⟩ (by simp) rfl)
                rw [if_pos (by simp [Region.wanted])]
                go_wp2_with fail
                exact hK _ (.bool false) _ (by simp only [Act.put, List.setIfInBounds_toArray, List.set_cons_zero, List.set_cons_succ, e2]) ⟨hB, s0, s1, h0, h1, h2, h3, h4, h5, h6, h7, h8, h9, (fun _ => rfl)⟩
            · intro L v wx hL ⟨hB, s0, s1, h0, h1, h2, h3, h4, h5, h6, h7, h8, h9, h10⟩
              have e10 := h10 (hL 10 (by decide))
              simp only [Exit.then, e10]
              clear hL hb B0 B1 B2 B3 h0 h1 h2 h3 h4 h5 h6 h7 h8 h9 h10
              have hb := hB
              have B3 := s0
              have B1 := s1
              clear hB s0 s1 e10
              have lu_1 := B1.lt
              have lu_3 := B3.lt
              go_wp2_with (first | (refine wpList_load_any rfl 26 (.tmp 13) rfl _ rfl 64 26 _ B3 _ Try.underlying26 rfl Try.size26 ?_) | (refine wpList_build_of rfl 102 _ rfl (facC (monP p X) 1).toArray (by rw [Array.toList_map]; exact built_fac2 _ 1) ?_) | (refine wpList_build1 rfl 49 _ (facC (monP p X) 1) 65 rfl 102 Try.underlying49 Try.elemFac (by decide) (by decide) (facC_len _ _) rfl ?_; intro wa hps hba; have eB1 := B1.below hba B1.lt; have eB3 := B3.below hba B3.lt; have ehb := hb.trans (hba.mono hb.size)) | (at_builtin; refine wpList_append_sl _ rfl _ _ 49 rfl base 102 (.agg (facC (fun _ => 0) 0).toArray) 65 72 Try.underlying49 Try.infoFac (by simp [Value.cells, facC_len]) (by decide) (.slice a0 0 cap0) _ rfl eB1.1 wx.heap.size (facC (monP p X) 1) rfl (facC_len _ _) hps.range (facC_one _ _) (by rw [facRows_len]; unfold maxLen; omega) (by rw [facRows_len]; omega) ?_; intro vp wp hSp hg1; have fhb := ehb.grown hg1 ehb.size (fun k e => Nat.le_trans ybw (eB1.1.own k e))))
              go_ret
              exact ⟨_, rfl, by rw [HR.out.1, facRows_app, HRW.out]; exact hSp.base ybw, fhb⟩
          · rw [List.concat_eq_append] at *
            obtain ⟨g, cap0, rfl⟩ : ∃ g cap, lst = .slice (some ⟨g, 0, none⟩) (LI.length + 1) cap := by
              rcases B1.1.shape with ⟨_, h1⟩ | ⟨g, cap, h1⟩
              · simp [facRows] at h1
              · exact ⟨g, cap, by rw [h1, facRows_len, List.length_append]; rfl⟩
            have hLq : (LI ++ [x]).length ≤ n * 13841287202 := hLL
            rw [List.length_append] at hLL
            have hLI : LI.length + 1 ≤ n * 13841287202 := hLL
            have HNX := Lib.hid (HNE.out x (by simp))
            obtain ⟨J, hJ⟩ : ∃ J, J = LI.length := ⟨_, rfl⟩
            rw [← hJ] at hLI B1 ⊢
            have HJ := Lib.hid hJ
            clear hJ hLL HNE
            go_upto_region 20 with (fail)
            have hgd := Try.noGuard26
            have heq := fun W => run_equalIn_bytes (P := Try.prog) W 9998 26 5 64 (ofN p x.1) (monP p X) Try.underlying26 Try.underlying5 Try.size5
            rw [HNX.out] at heq
            refine wp_region_stepsG Try.mixed (by kernel_rfl) (by kernel_rfl) (fun v => by (simp only [frL, Act.put, List.setIfInBounds_toArray, List.set_cons_zero, List.set_cons_succ, Nat.reduceAdd, Nat.zero_add]; exact rfl))
              (fun L v wx => Below w.heap.size w wx ∧ Blk wx (k18_10) 64 26 (monP p X) ∧ SlT wx base wr.heap.size 102 65 (.slice (some ⟨g, 0, none⟩) (J + 1) cap0) (facRows p (LI ++ [x])) ∧ (L 0 = true → v 0 = (.int .i64 (J : Int))) ∧ (L 1 = true → v 1 = (.bool true)) ∧ (L 2 = true → v 2 = (.bool true)) ∧ (L 3 = true → v 3 = (.slice (some ⟨g, 0, none⟩) (J + 1) cap0)) ∧ (L 4 = true → v 4 = (.int .i64 (J : Int))) ∧ (L 5 = true → v 5 = (.pointer (some ⟨g, J * 65, none⟩))) ∧ (L 6 = true → v 6 = (.pointer (some ⟨g, J * 65, none⟩))) ∧ (L 7 = true → v 7 = (.agg (bcells 64 (ofN p x.1)))) ∧ (L 8 = true → v 8 = (.agg (bcells 64 (monP p X)))) ∧ (L 9 = true → v 9 = (.bool false)) ∧ (L 10 = true → v 10 = (.bool false))) ?_ ?_ ?_
            · intro v hv0
              exact ⟨hb.drew, B3.drew, B1.drew, (fun h => by cases h), (fun h => by cases h), (fun h => by cases h), (fun h => by cases h), (fun h => by cases h), (fun h => by cases h), (fun h => by cases h), (fun h => by cases h), (fun h => by cases h), (fun h => by cases h), (fun h => by cases h)⟩
            · refine (.cons ?_ (.cons ?_ (.cons ?_ (.cons ?_ (.cons ?_ (.cons ?_ (.cons ?_ (.cons ?_ (.cons ?_ (.cons ?_ (.cons ?_ (.nil _))))))))))))
              · intro L v wx hd hn ⟨hB, s0, s1, h0, h1, h2, h3, h4, h5, h6, h7, h8, h9, h10⟩ K hK
                rw [if_pos (by simp [Region.wanted])]
                go_wp2_with fail
                exact hK _ (.int .i64 (J : Int)) _ (by simp only [Act.put, List.setIfInBounds_toArray, List.set_cons_zero, List.set_cons_succ]) ⟨hB, s0, s1, (fun _ => rfl), h1, h2, h3, h4, h5, h6, h7, h8, h9, h10⟩
              · intro L v wx hd hn ⟨hB, s0, s1, h0, h1, h2, h3, h4, h5, h6, h7, h8, h9, h10⟩ K hK
                have e0 := h0 (hd ⟨0, .data⟩ (by simp) rfl)
                rw [if_pos (by simp [Region.wanted])]
                go_wp2_with fail
                exact hK _ (.bool true) _ (by simp only [Act.put, List.setIfInBounds_toArray, List.set_cons_zero, List.set_cons_succ, e0]) ⟨hB, s0, s1, h0, (fun _ => rfl), h2, h3, h4, h5, h6, h7, h8, h9, h10⟩
              · intro L v wx hd hn ⟨hB, s0, s1, h0, h1, h2, h3, h4, h5, h6, h7, h8, h9, h10⟩ K hK
                have e1 := h1 (hd ⟨1, .data⟩ (by simp) rfl)
                rw [if_pos (by simp [Region.wanted])]
                go_wp2_with fail
                exact hK _ (.bool true) _ (by simp only [Act.put, List.setIfInBounds_toArray, List.set_cons_zero, List.set_cons_succ, e1]) ⟨hB, s0, s1, h0, h1, (fun _ => rfl), h3, h4, h5, h6, h7, h8, h9, h10⟩
              · intro L v wx hd hn ⟨hB, s0, s1, h0, h1, h2, h3, h4, h5, h6, h7, h8, h9, h10⟩ K hK
                have e2 := h2 (hd ⟨2, .guard⟩ (by simp) rfl)
                rw [if_pos (by simp [Region.wanted, yielded, e2])]
                go_wp2_with fail
                exact hK _ (.slice (some ⟨g, 0, none⟩) (J + 1) cap0) _ (by simp only [Act.put, List.setIfInBounds_toArray, List.set_cons_zero, List.set_cons_succ, e2]) ⟨hB, s0, s1, h0, h1, h2, (fun _ => rfl), h4, h5, h6, h7, h8, h9, h10⟩
              · intro L v wx hd hn ⟨hB, s0, s1, h0, h1, h2, h3, h4, h5, h6, h7, h8, h9, h10⟩ K hK
                have e2 := h2 (hd ⟨2, .guard⟩ (by simp) rfl)
                rw [if_pos (by simp [Region.wanted, yielded, e2])]
                go_wp2_with fail
                exact hK _ (.int .i64 (J : Int)) _ (by simp only [Act.put, List.setIfInBounds_toArray, List.set_cons_zero, List.set_cons_succ, e2]) ⟨hB, s0, s1, h0, h1, h2, h3, (fun _ => rfl), h5, h6, h7, h8, h9, h10⟩
              · intro L v wx hd hn ⟨hB, s0, s1, h0, h1, h2, h3, h4, h5, h6, h7, h8, h9, h10⟩ K hK
                have e3 := h3 (hd ⟨3, .data⟩ (by simp) rfl)
                have e4 := h4 (hd ⟨4, .data⟩ (by simp) rfl)
                have e2 := h2 (hd ⟨2, .guard⟩ (by simp) rfl)
                rw [if_pos (by simp [Region.wanted, yielded, e2])]
                go_wp2_with fail
                exact hK _ (.pointer (some ⟨g, J * 65, none⟩)) _ (by simp only [Act.put, List.setIfInBounds_toArray, List.set_cons_zero, List.set_cons_succ, e3, e4, e2]) ⟨hB, s0, s1, h0, h1, h2, h3, h4, (fun _ => rfl), h6, h7, h8, h9, h10⟩
              · intro L v wx hd hn ⟨hB, s0, s1, h0, h1, h2, h3, h4, h5, h6, h7, h8, h9, h10⟩ K hK
                have e5 := h5 (hd ⟨5, .data⟩ (by simp) rfl)
                have e2 := h2 (hd ⟨2, .guard⟩ (by simp) rfl)
                rw [if_pos (by simp [Region.wanted, yielded, e2])]
                go_wp2_with fail
                exact hK _ (.pointer (some ⟨g, J * 65, none⟩)) _ (by simp only [Act.put, List.setIfInBounds_toArray, List.set_cons_zero, List.set_cons_succ, e5, e2]) ⟨hB, s0, s1, h0, h1, h2, h3, h4, h5, (fun _ => rfl), h7, h8, h9, h10⟩
              · intro L v wx hd hn ⟨hB, s0, s1, h0, h1, h2, h3, h4, h5, h6, h7, h8, h9, h10⟩ K hK
                have e6 := h6 (hd ⟨6, .data⟩ (by simp) rfl)
                have e2 := h2 (hd ⟨2, .guard⟩ (by simp) rfl)
                rw [if_pos (by simp [Region.wanted, yielded, e2])]
                have hr := (s1.1.range (i := J) (c := facC (ofN p x.1) x.2) (by rw [facRows_snoc, HJ.out]; simp [facRows_len]))
                have hr2 : wx.rangeAt g (J * 65) (bl 64 (ofN p x.1)) := fun j u hu => hr j u (by unfold facC; rw [List.getElem?_append_left (List.getElem?_eq_some_iff.1 hu).1]; exact hu)
                refine wp_load_mid 26 _ rfl _ (J * 65) e6 _ _ hr2 Try.underlying26 rfl (by rw [bl_length]; exact Try.size26) ?_
                exact hK _ _ _ rfl ⟨hB, s0, s1, h0, h1, h2, h3, h4, h5, h6, (fun _ => rfl), h8, h9, h10⟩
              · intro L v wx hd hn ⟨hB, s0, s1, h0, h1, h2, h3, h4, h5, h6, h7, h8, h9, h10⟩ K hK
                have e2 := h2 (hd ⟨2, .guard⟩ (by simp) rfl)
                rw [if_pos (by simp [Region.wanted, yielded, e2])]
                refine wp_load_any 26 _ rfl _ rfl 64 26 _ s0 _ Try.underlying26 rfl Try.size26 ?_
                exact hK _ _ _ rfl ⟨hB, s0, s1, h0, h1, h2, h3, h4, h5, h6, h7, (fun _ => rfl), h9, h10⟩
              · intro L v wx hd hn ⟨hB, s0, s1, h0, h1, h2, h3, h4, h5, h6, h7, h8, h9, h10⟩ K hK
                have e7 := h7 (hd ⟨7, .data⟩ (by simp) rfl)
                have e8 := h8 (hd ⟨8, .data⟩ (by simp) rfl)
                have e2 := h2 (hd ⟨2, .guard⟩ (by simp) rfl)
                rw [if_pos (by simp [Region.wanted, yielded, e2])]
                go_wp2_with fail
                exact hK _ (.bool false) _ (by simp only [Act.put, List.setIfInBounds_toArray, List.set_cons_zero, List.set_cons_succ, e7, e8, e2]) ⟨hB, s0, s1, h0, h1, h2, h3, h4, h5, h6, h7, h8, (fun _ => rfl), h10⟩
              · intro L v wx hd hn ⟨hB, s0, s1, h0, h1, h2, h3, h4, h5, h6, h7, h8, h9, h10⟩ K hK
                have e2 := h2 (hd ⟨2, .data⟩ (by simp) rfl)
                have e9 := h9 (hd ⟨9, .data⟩ (by simp) rfl)
                rw [if_pos (by simp [Region.wanted])]
                go_wp2_with fail
                exact hK _ (.bool false) _ (by simp only [Act.put, List.setIfInBounds_toArray, List.set_cons_zero, List.set_cons_succ, e2, e9]) ⟨hB, s0, s1, h0, h1, h2, h3, h4, h5, h6, h7, h8, h9, (fun _ => rfl)⟩
            · intro L v wx hL ⟨hB, s0, s1, h0, h1, h2, h3, h4, h5, h6, h7, h8, h9, h10⟩
              have e10 := h10 (hL 10 (by decide))
              simp only [Exit.then, e10]
              clear hL hb B0 B1 B2 B3 h0 h1 h2 h3 h4 h5 h6 h7 h8 h9 h10 hgd heq
              have hb := hB
              have B3 := s0
              have B1 := s1
              clear hB s0 s1 e10
              have lu_1 := B1.lt
              have lu_3 := B3.lt
              go_wp2_with (first | (refine wpList_load_any rfl 26 (.tmp 13) rfl _ rfl 64 26 _ B3 _ Try.underlying26 rfl Try.size26 ?_) | (refine wpList_build_of rfl 102 _ rfl (facC (monP p X) 1).toArray (by rw [Array.toList_map]; exact built_fac2 _ 1) ?_) | (refine wpList_build1 rfl 49 _ (facC (monP p X) 1) 65 rfl 102 Try.underlying49 Try.elemFac (by decide) (by decide) (facC_len _ _) rfl ?_; intro wa hps hba; have eB1 := B1.below hba B1.lt; have eB3 := B3.below hba B3.lt; have ehb := hb.trans (hba.mono hb.size)) | (at_builtin; refine wpList_append_sl _ rfl _ _ 49 rfl base 102 (.agg (facC (fun _ => 0) 0).toArray) 65 72 Try.underlying49 Try.infoFac (by simp [Value.cells, facC_len]) (by decide) (.slice (some ⟨g, 0, none⟩) (J + 1) cap0) _ rfl eB1.1 wx.heap.size (facC (monP p X) 1) rfl (facC_len _ _) hps.range (facC_one _ _) (by rw [facRows_len]; unfold maxLen; omega) (by rw [facRows_len]; omega) ?_; intro vp wp hSp hg1; have fhb := ehb.grown hg1 ehb.size (fun k e => Nat.le_trans ybw (eB1.1.own k e))))
              go_ret
              exact ⟨_, rfl, by rw [HR.out.1, facRows_app, HRW.out]; exact hSp.base ybw, fhb⟩
      · have hnx : ¬ 0 < deg X := h0X
        have HR2 := Lib.hid (show run p 64 1 f = LL by rw [HR.out.1, finL_z (by omega), List.append_nil])
        clear HR
        go_wp2_with fail
        go_ret
        exact ⟨_, rfl, by rw [HR2.out]; exact B1.1.base ybw, hb⟩
end Go.Proofs.Ytpeehpaghdddgaa
