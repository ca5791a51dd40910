/-
  What the rows of this claim rest on: arrays of bytes, walks of the functions, plain mathematics.
-/
import Derived.Test.YtoncepgcfifgbaaZb6
section
namespace Go.Proofs.Ytoncepgcfifgbaa
open Go.RowKit
set_option linter.unusedVariables false
attribute [local irreducible] deg invN quoP resP
def spN (p x : Nat) (a : Nat → Nat) : List (Nat × Nat) := if 0 < (dvo p (ofN p x) 64 a).1 then [(x, (dvo p (ofN p x) 64 a).1)] else []
theorem spI_stay {p n : Nat} {a : Nat → Nat} (h : ¬ 2 * (n : Int) ≤ deg a) : ∀ ms, spI p n ms a = ([], a)
 | [] => rfl
 | N :: ms => by rw [spI, if_neg h]
theorem spI_snoc {p n x : Nat} : ∀ (pre : List Nat) (a : Nat → Nat), spI p n (pre ++ [x]) a =
 if 2 * (n : Int) ≤ deg (spI p n pre a).2 then ((spI p n pre a).1 ++ spN p x (spI p n pre a).2, (dvo p (ofN p x) 64 (spI p n pre a).2).2) else spI p n pre a
 | [], a => by
  have e : spI p n ([] : List Nat) a = ([], a) := rfl
  rw [List.nil_append, e]
  show spI p n [x] a = if 2 * (n : Int) ≤ deg a then ([] ++ spN p x a, (dvo p (ofN p x) 64 a).2) else ([], a)
  by_cases h : 2 * (n : Int) ≤ deg a
  · rw [if_pos h, spI, if_pos h]
    show (spN p x a ++ [], (dvo p (ofN p x) 64 a).2) = _
    rw [List.append_nil, List.nil_append]
  · rw [if_neg h, spI_stay h]
 | N :: pre, a => by
  rw [List.cons_append]
  by_cases h : 2 * (n : Int) ≤ deg a
  · rw [spI, if_pos h, spI_snoc pre, spI, if_pos h]
    by_cases h3 : 2 * (n : Int) ≤ deg (spI p n pre (dvo p (ofN p N) 64 a).2).2
    · rw [if_pos h3, if_pos h3, List.append_assoc]
    · rw [if_neg h3, if_neg h3]
  · rw [spI_stay h, spI_stay h, if_neg h]
theorem spI_more {p n : Nat} {a : Nat → Nat} : ∀ (pre ms : List Nat), ¬ 2 * (n : Int) ≤ deg (spI p n pre a).2 → spI p n (pre ++ ms) a = spI p n pre a
 | pre, [], _ => by rw [List.append_nil]
 | pre, x :: ms, h => by
  have e : spI p n (pre ++ [x]) a = spI p n pre a := by rw [spI_snoc, if_neg h]
  rw [show pre ++ x :: ms = (pre ++ [x]) ++ ms by simp, spI_more (pre ++ [x]) ms (by rw [e]; exact h), e]
theorem spO_step {p f n : Nat} {a : Nat → Nat} (h : 2 * (n : Int) ≤ deg a) : spO p (f + 1) n a = ((spI p n (monL p n) a).1 ++ (spO p f (n + 1) (spI p n (monL p n) a).2).1, (spO p f (n + 1) (spI p n (monL p n) a).2).2) := by rw [spO, if_pos h]
theorem spO_stop {p f n : Nat} {a : Nat → Nat} (h : ¬ 2 * (n : Int) ≤ deg a) : spO p f n a = ([], a) := by
 cases f with
 | zero => rfl
 | succ f => rw [spO, if_neg h]
/-- what was told does not divide what is left -/
theorem spO_left {p : Nat} (hp : p = 2 ∨ p = 3 ∨ p = 5 ∨ p = 7) : ∀ (f n : Nat) (a : Nat → Nat), 1 ≤ n → (∀ k, k < 64 → a k < p) → 0 ≤ deg a → lowf p n a →
 (∀ k, k < 64 → (spO p f n a).2 k < p) ∧ 0 ≤ deg (spO p f n a).2 ∧ dv p (lz (spO p f n a).2) (lz a) ∧ ∀ x, x ∈ (spO p f n a).1 → ¬ dv p (lz (ofN p x.1)) (lz (spO p f n a).2)
 | 0, n, a, _, ha, h0, _ => ⟨ha, h0, dv_self _, fun x hx => by cases hx⟩
 | f + 1, n, a, hn, ha, h0, hl => by
  by_cases h : 2 * (n : Int) ≤ deg a
  · have hn2 : n < 64 := by have := zdb a; omega
    have hI := spI_left hp hn hn2 (monL p n) a (fun _ h => h) ha h0 hl
    obtain ⟨s1, s2, s3, s4⟩ := hI
    rw [spO_step h]
    by_cases hc : 2 * (n : Int) ≤ deg (spI p n (monL p n) a).2
    · have hfull := spI_full hp (monL p n) a hc
      obtain ⟨r1, r2, r3, r4, r5⟩ := foR_spec hp hn hn2 (monL p n) a (fun _ h => h) ha h0 hl
      obtain ⟨t1, t2, t3, t4⟩ := spO_left hp f (n + 1) (spI p n (monL p n) a).2 (by omega) s1 s2 (by rw [hfull]; exact lowf_next (by omega) hl r4 r5)
      refine ⟨t1, t2, dv_trans t3 s3, fun x hx hd => ?_⟩
      rcases List.mem_append.1 hx with h1 | h1
      · exact (s4 x h1).2.2.2 (dv_trans hd t3)
      · exact t4 x h1 hd
    · rw [spO_stop (f := f) (n := n + 1) (by push_cast; omega)]
      refine ⟨s1, s2, s3, fun x hx hd => ?_⟩
      rw [List.append_nil] at hx
      exact (s4 x hx).2.2.2 hd
  · rw [spO_stop h]
    exact ⟨ha, h0, dv_self _, fun x hx => by cases hx⟩
end Go.Proofs.Ytoncepgcfifgbaa
namespace Go.Proofs.Ytoncepgcfifgbaa
open Go Go.RowKit
set_option linter.unusedVariables false
set_option linter.unusedSimpArgs false
attribute [local irreducible] deg invN dS qS stp stpr quoP resP oneP ofN dvo spI spO spN run lowf monL finL facRows
theorem facRows_app (p : Nat) (L M : List (Nat × Nat)) : facRows p (L ++ M) = facRows p L ++ facRows p M := by unfold facRows; exact List.map_append
theorem finL_rows {p : Nat} {X : Nat → Nat} (hp : p = 2 ∨ p = 3 ∨ p = 5 ∨ p = 7) (hX : ∀ k, k < 64 → X k < p) (h0 : 0 < deg X) : facRows p (finL p X) = [facC (monP p X) 1] := by
 obtain ⟨D, hD⟩ : ∃ D : Nat, deg X = (D : Int) := ⟨(deg X).toNat, by omega⟩
 obtain ⟨m1, m2, _, _⟩ := made_mon hp hX hD
 unfold finL facRows
 rw [if_pos h0, hD, Int.toNat_natCast]
 obtain ⟨q, hq⟩ : ∃ q, q = monP p X := ⟨_, rfl⟩
 have e : sclP p X (invN p (X D)) = q := by rw [hq]; unfold monP; rw [hD, Int.toNat_natCast]
 rw [e] at m1 m2
 rw [← hq]
 obtain ⟨_, h2⟩ := mon_num (by omega) m2 m1
 show [facC (ofN p (vl p q (D + 1))) 1] = [facC q 1]
 unfold facC bl
 rw [List.map_congr_left (fun k hk => by rw [h2 k (by simpa using hk)])]
theorem left_ne {p N : Nat} {X : Nat → Nat} (hp : p = 2 ∨ p = 3 ∨ p = 5 ∨ p = 7) (hX : ∀ k, k < 64 → X k < p) (h0 : 0 ≤ deg X) (h : ¬ dv p (lz (ofN p N)) (lz X)) : eqN 64 (ofN p N) (monP p X) = false := by
 cases he : eqN 64 (ofN p N) (monP p X) with
 | false => rfl
 | true =>
  exfalso; apply h
  obtain ⟨D, hD⟩ : ∃ D : Nat, deg X = (D : Int) := ⟨(deg X).toNat, by omega⟩
  obtain ⟨_, _, _, m4⟩ := made_mon hp hX hD
  rw [lz_congr (eqN_iff.1 he)]
  unfold monP
  rw [hD, Int.toNat_natCast]
  exact (m4 _).2 (dv_self _)
theorem slL_empty (w : World) (e : TypeId) (size : Nat) {base : Nat} (h : base ≤ w.heap.size) : SlL (w.alloc (.cells #[] e)) base e size (.slice (some ⟨w.heap.size, 0, none⟩) 0 0) [] := by
 delta SlL
 refine ⟨?_, ?_, ?_⟩
 · simp; omega
 · intro c hc; cases hc
 · exact ⟨by simp, .inr ⟨w.heap.size, 0, #[], rfl, h, heap_alloc_last w _, Nat.le_refl _, Nat.zero_le _, by simp, by simp⟩⟩
theorem built_fac2 (f : Nat → Nat) (k : Nat) : Try.prog.built 100 [(0, .agg (zb 64 f)), (1, .int .i64 (k : Int))] = some (facC f k).toArray := by unfold facC zb bl; kernel_rfl
set_option maxRecDepth 100000 in
set_option maxHeartbeats 12800000 in
theorem l01Count_any (p n : Nat) (w : World) (hp1 : 2 ≤ p) (hp2 : p ≤ 7) (hn : n ≤ 12) :
 Calls Try.prog 99 #[.int .i64 (p : Int), .int .i64 (n : Int)] w fun e w' => e = .returned (.int .i64 ((p ^ n : Nat) : Int)) ∧ w = w' := by
 go_enter Try.func99, Try.ntmps99
 go_wp2_with fail
 go_loopw [5, 1] (fun x i wr => ∃ k j X : Nat, k + j = n ∧ X = p ^ k ∧ x = .int .i64 (X : Int) ∧ i = .int .i64 (j : Int) ∧ wr = w) (fun _ i _ => (intOf i).toNat)
 case atStart => exact ⟨0, n, 1, by omega, rfl, rfl, rfl, rfl⟩
 case round =>
  obtain ⟨k, j, X, hk, hX, rfl, rfl, rfl⟩ := hrel
  have hb := mon_bound hp2 (by omega : k ≤ 12)
  rw [← hX] at hb
  have hX12 : (X : Int) ≤ 1000000000000 := by omega
  have HK := Lib.hid hk
  have hj20 : j ≤ 20 := by omega
  clear hk
  by_cases hlt : 0 < j
  · have hm : ((X * p : Nat) : Int) ≤ 13841287201 * 7 := by
     have : X * p ≤ 13841287201 * 7 := Nat.mul_le_mul hb hp2
     omega
    have hm2 : 0 ≤ ((X * p : Nat) : Int) := by omega
    rw [Int.natCast_mul] at hm hm2
    have HX := Lib.hid hX; clear hX
    go_wp2_with fail
    go_roundw
    case rel => exact ⟨k + 1, j - 1, X * p, by have := HK.out; omega, by rw [Nat.pow_succ, ← HX.out], by go_num, by rw [show ((j - 1 : Nat) : Int) = (j : Int) - 1 by omega], trivial⟩
    case measure => simp [intOf]; omega
  · have e : j = 0 := by omega
    subst e
    have e2 : k = n := by have := HK.out; omega
    have hmn : ((X : Int) < 1000000000001) := by omega
    have HX := Lib.hid hX
    have HK2 := Lib.hid e2
    clear hX e2
    go_wp2_with fail
    go_ret
    exact ⟨ret_int (congrArg (fun x : Nat => (x : Int)) (by rw [HX.out, HK2.out])), rfl⟩
set_option maxRecDepth 100000 in
set_option maxHeartbeats 12800000 in
theorem l02Split_any (p : Nat) (f : Nat → Nat) (w : World) (hpr : p = 2 ∨ p = 3 ∨ p = 5 ∨ p = 7) (lf : ∀ k, k < 64 → f k < p) (h0 : 0 ≤ deg f) (h12 : deg f ≤ 12) :
 Calls Try.prog 110 #[.int .i64 (p : Int), .agg (zb 64 f)] w (FaF p f w) := by
 have p2 : 2 ≤ p := by omega
 have p7 : p ≤ 7 := by omega
 have p0 : 0 < p := by omega
 have HLF := Lib.hid lf
 have HEND := Lib.hid (spO_eq hpr 64 1 f (by omega) (by omega) lf h0 (lowf_one f))
 have HLEFT := Lib.hid (spO_left hpr 64 1 f (by omega) lf h0 (lowf_one f))
 clear lf
 go_enter Try.func110, Try.ntmps110
 go_upto_region 1 with (fail)
 obtain ⟨W1, hwo⟩ : ∃ v : World, v = (w.alloc (.cells (zb 64 (f)) 23)) := ⟨_, rfl⟩
 have B0 : Blk W1 (w.heap.size) 64 23 (f) := by subst hwo; have := (Blk.new w 64 23 (f)); simpa using this
 have hb : Below w.heap.size w W1 := by subst hwo; exact ((Below.refl _ _).alloc (Nat.le_refl _) _)
 rw [← hwo]
 clear hwo
 go_upto_block 0 with (fail)
 obtain ⟨base, hbase0⟩ : ∃ n, n = W1.heap.size := ⟨_, rfl⟩
 have yb_0 : (w.heap.size) < base := by rw [hbase0]; exact B0.lt
 have ybw : w.heap.size ≤ base := by rw [hbase0]; exact hb.size
 have hS0 : SlL (W1.alloc (.cells #[] 100)) base 100 65 (.slice (some ⟨W1.heap.size, 0, none⟩) 0 0) (facRows p []) := by unfold facRows; exact slL_empty W1 100 65 (Nat.le_of_eq hbase0)
 have hb1 : Below w.heap.size w (W1.alloc (.cells #[] 100)) := hb.alloc hb.size _
 have qB0 : Blk (W1.alloc (.cells #[] 100)) (w.heap.size) 64 23 f := B0.alloc _
 clear hbase0 hb B0
 go_wp2_with fail
 go_loopw [5, 6] (fun s5 i wr => ∃ (fu n : Nat) (X : Nat → Nat) (LL : List (Nat × Nat)) (lst : Value), lst = s5 ∧ n + fu = 64 ∧ i = .int .i64 ((n : Int) + 1) ∧ Hid (spO p 64 1 f = (LL ++ (spO p fu (n + 1) X).1, (spO p fu (n + 1) X).2)) ∧ Hid (∀ k, k < 64 → X k < p) ∧ 0 ≤ deg X ∧ deg X ≤ 12 ∧ LL.length ≤ n * 13841287202 ∧ Below w.heap.size w wr ∧ Blk wr (w.heap.size) 64 23 X ∧ SlL wr base 100 65 lst (facRows p LL)) (fun _ i _ => 80 - (intOf i).toNat)
 case atStart => exact ⟨64, 0, f, [], _, rfl, rfl, rfl, Lib.hid rfl, HLF, h0, h12, by simp, hb1, qB0, hS0⟩
 case round =>
  clear hb1 hS0 qB0
  obtain ⟨fu, n, X, LL, lst, rfl, hfu, rfl, hE, hX, hX0, hX12, hLL, hb, B0, hS⟩ := hrel
  have HFU := Lib.hid hfu
  clear hfu
  by_cases hd : 2 * ((n : Int) + 1) ≤ deg X
  · obtain ⟨fu, rfl⟩ : ∃ t, fu = t + 1 := ⟨fu - 1, by have := HFU.out; omega⟩
    have hn5 : n ≤ 5 := by omega
    obtain ⟨q, hq⟩ : ∃ q, q = p ^ (n + 1) := ⟨_, rfl⟩
    have hqb : q ≤ 13841287201 := by rw [hq]; exact mon_bound p7 (by omega)
    have HCQ := Lib.hid (show ∀ W, Calls Try.prog 99 #[.int .i64 (p : Int), .int .i64 ((n + 1 : Nat) : Int)] W fun e w' => e = .returned (.int .i64 (q : Int)) ∧ W = w' by rw [hq]; exact fun W => l01Count_any p (n + 1) W p2 p7 (by omega))
    have HQ := Lib.hid hq
    clear hq
    have HSS := Lib.hid (spO_step (p := p) (f := fu) (n := n + 1) (a := X) (by push_cast; omega))
    have B1 := hS.top
    have B2 : SzG wr.heap.size wr := Nat.le_refl _
    clear hS
    go_upto_region 5 with (first | (refine zla (.tmp 3) B0 Try.underlying23 Try.size23 ?_) | (go_at_call 88; refine (l01Deg_any X _).mono ?_; rintro e W2 ⟨rfl, hW2⟩; replace B0 := B0.zw hW2; replace B1 := B1.zw hW2; replace B2 := B2.zw hW2; replace hb := (hb).trans (hW2.mono (hb).size)))
    go_upto_region 99 with (first | (go_at_call 99; refine (HCQ.out _).mono ?_; rintro e wS ⟨rfl, rfl⟩))
    go_loopw [5, 7] (fun s5 i wr => ∃ (j : Nat) (Y : Nat → Nat) (LJ : List (Nat × Nat)) (lst2 : Value), lst2 = s5 ∧ j ≤ q ∧ i = .int .i64 ((q : Int) + (j : Int)) ∧ Hid (spI p (n + 1) (List.range' q j) X = (LJ, Y)) ∧ LJ.length ≤ j ∧ Hid (∀ k, k < 64 → Y k < p) ∧ 0 ≤ deg Y ∧ deg Y ≤ 12 ∧ Below w.heap.size w wr ∧ Blk wr (w.heap.size) 64 23 Y ∧ SlL wr base 100 65 lst2 (facRows p (LL ++ LJ))) (fun _ i _ => q + q + 1 - (intOf i).toNat)
    case atStart => exact ⟨0, X, [], lst, rfl, Nat.zero_le _, by simp, Lib.hid (by unfold spI; rfl), Nat.zero_le _, hX, hX0, hX12, hb, B0, (by rw [List.append_nil]; exact B1.1)⟩
    case round =>
     clear hb B0 B1 B2
     obtain ⟨j, Y, LJ, lst2, rfl, hjq, rfl, hSI, hLJ, hY, hY0, hY12, hb, B0, hS⟩ := hrel
     by_cases hj : j < q
     · have hcj : (q : Int) + (j : Int) < 2 * (q : Int) := by omega
       by_cases hdY : 2 * ((n : Int) + 1) ≤ deg Y
       · have hmem : q + j ∈ monL p (n + 1) := by rw [monL_mem, ← HQ.out]; omega
         have hmx := mon_ofN p2 (by omega : n + 1 < 64) hmem
         obtain ⟨x, hxq⟩ : ∃ x, x = q + j := ⟨_, rfl⟩
         rw [← hxq] at hmx
         have hxb : (x : Int) ≤ 1000000000000 := by omega
         have HOF := Lib.hid (show ∀ W, Calls Try.prog 100 #[.int .i64 (p : Int), .int .i64 ((q + j : Nat) : Int)] W fun e w' => e = .returned (.agg (zb 64 (ofN p x))) ∧ Below W.heap.size W w' by rw [← hxq]; exact fun W => l01Of_any p x W p2 p7 hxb)
         have HSN := Lib.hid (show spI p (n + 1) (List.range' q (j + 1)) X = (LJ ++ spN p x Y, (dvo p (ofN p x) 64 Y).2) by rw [range_snoc, ← hxq, spI_snoc, hSI.out, if_pos (by push_cast; exact hdY)])
         obtain ⟨d1, d2, d3, d4⟩ := dvo_ok (m := ofN p x) hpr (fun k _ => ofN_lt p0 x k) hmx 64 Y hY.out hY0
         have HD1 := Lib.hid d1
         have HMX := Lib.hid hmx
         have hdx : deg (ofN p x) = ((n : Int) + 1) := by rw [hmx.1]; push_cast; rfl
         have HDX := Lib.hid hdx
         clear hmem d1 hmx hSI hxq hdx hxb
         have B3 := hS.top
         have B4 : SzG wr.heap.size wr := Nat.le_refl _
         clear hS
         go_upto_region 8 with (first | (go_at_call 99; refine (HCQ.out _).mono ?_; rintro e wS ⟨rfl, rfl⟩) | (refine zlg rfl 23 (.tmp 3) rfl _ rfl 64 23 _ (B0) _ Try.underlying23 rfl Try.size23 ?_) | (go_at_call 88; refine (l01Deg_any Y _).mono ?_; rintro e W3 ⟨rfl, hW3⟩; replace B0 := B0.zw hW3; replace B3 := B3.zw hW3; replace B4 := B4.zw hW3; replace hb := (hb).trans (hW3.mono (hb).size)))
         have lt_B0 := B0.lt
         have lt_B3 := B3.lt
         have lt_B4 := B4.lt
         go_upto_region 99 with (first | rw [← z64] | (go_at_call 100; refine (HOF.out _).mono ?_; rintro e W4 ⟨rfl, hW4⟩; replace B0 := B0.zw hW4; replace B3 := B3.zw hW4; replace B4 := B4.zw hW4; replace hb := (hb).trans (hW4.mono (hb).size)) | (refine wpList_store_blk rfl 23 (.tmp 8) (.tmp 43) rfl _ 64 (ofN p x) rfl rfl 23 _ ((Blk.new W4 64 23 (fun _ => 0))) Try.size23 ?_; try simp only [Act.put]; go_upto_region 99 with (fail)))
         have lt_B0 := B0.lt
         have lt_B3 := B3.lt
         have lt_B4 := B4.lt
         have lhb := hb.size
         obtain ⟨W5, hwo, hzQ⟩ : ∃ v : World, v = ((W4.alloc (.cells (zb 64 fun _ => 0) 23)).setRow (W4.heap.size) (zb 64 (ofN p x))) ∧ Blk v (w.heap.size) 64 23 (Y) ∧ SlT v base wr.heap.size 100 65 lst2 (facRows p (LL ++ LJ)) ∧ SzG wr.heap.size v ∧ Blk v (W4.heap.size) 64 23 (ofN p x) ∧ Below w.heap.size w v := ⟨_, rfl, ((B0.alloc (.cells (zb 64 fun _ => 0) 23)).rowOther (by omega)), ((B3.alloc (.cells (zb 64 fun _ => 0) 23)).rowOther (by omega)), ((B4.alloc (.cells (zb 64 fun _ => 0) 23)).rowOther (by omega)), ((Blk.new W4 64 23 (fun _ => 0)).row (ofN p x)), (zr (hb.alloc (by have := hb.size; simp; omega) (.cells (zb 64 fun _ => 0) 23)) (by omega) _)⟩
         rw [← hwo]
         clear hwo B0 B3 B4 hb
         obtain ⟨B0, B3, B4, B5, hb⟩ := hzQ
         obtain ⟨N1, hNN⟩ : ∃ n : Nat, n = W4.heap.size := ⟨_, rfl⟩
         rw [← hNN] at lt_B0 lt_B3 lt_B4 lhb B5 ⊢
         clear hNN
         have zN1_0 := lt_B0
         have zN1_3 := lt_B3
         have zN1_4 := lt_B4
         have zN1 := lhb
         clear lt_B0 lt_B3 lt_B4 lhb
         try simp only [Act.put, pA, pB, pC]
         clear HOF
         go_wp2_with fail
         go_loopw [9] (fun i wr => ∃ (fu2 i0 : Nat) (Z : Nat → Nat), i0 + fu2 = 64 ∧ i = .int .i64 (i0 : Int) ∧ Hid (dvo p (ofN p x) 64 Y = ((dvo p (ofN p x) fu2 Z).1 + i0, (dvo p (ofN p x) fu2 Z).2)) ∧ Hid (∀ k, k < 64 → Z k < p) ∧ 0 ≤ deg Z ∧ deg Z < (fu2 : Int) ∧ Below w.heap.size w wr ∧ Blk wr (w.heap.size) 64 23 Z ∧ Blk wr (N1) 64 23 (ofN p x) ∧ SlL wr base 100 65 lst2 (facRows p (LL ++ LJ)) ∧ W5.heap.size ≤ wr.heap.size) (fun i _ => 65 - (intOf i).toNat)
         case atStart => exact ⟨64, 0, Y, rfl, rfl, Lib.hid rfl, hY, hY0, by omega, hb, B0, B5, B3.1, Nat.le_refl _⟩
         case round =>
          clear hb B0 B3 B4 B5
          obtain ⟨fu2, i0, Z, hfu2, rfl, hDE, hZ, hZ0, hZf, hb, B0, B5, hS, hszW⟩ := hrel
          obtain ⟨fu2, rfl⟩ : ∃ t, fu2 = t + 1 := ⟨fu2 - 1, by omega⟩
          have HDV := Lib.hid (fun W => l01Divide_any p Z (ofN p x) W hpr hZ.out (fun k _ => ofN_lt p0 x k) (by rw [HDX.out]; omega))
          have i64 : i0 ≤ 63 := by omega
          have HF2 := Lib.hid hfu2
          clear hfu2
          have B6 := hS.top
          have B7 : SzG wr.heap.size wr := Nat.le_refl _
          clear hS
          by_cases hge : (n : Int) + 1 ≤ deg Z
          · 
            go_upto_region 10 with (first | (refine zla (.tmp 3) B0 Try.underlying23 Try.size23 ?_) | (go_at_call 88; refine (l01Deg_any Z _).mono ?_; rintro e W6 ⟨rfl, hW6⟩; replace B0 := B0.zw hW6; replace B5 := B5.zw hW6; replace B6 := B6.zw hW6; replace B7 := B7.zw hW6; replace hb := (hb).trans (hW6.mono (hb).size)))
            have lt_B0 := B0.lt
            have lt_B5 := B5.lt
            have lt_B6 := B6.lt
            have lt_B7 := B7.lt
            go_upto_region 11 with (first | rw [← z64] | (refine zla (.tmp 3) B0 Try.underlying23 Try.size23 ?_) | (refine zla (.tmp 8) B5 Try.underlying23 Try.size23 ?_) | (go_at_call 155; refine (HDV.out _).mono ?_; rintro e W7 ⟨rfl, hW7⟩; replace B0 := B0.zw hW7; replace B5 := B5.zw hW7; replace B6 := B6.zw hW7; replace B7 := B7.zw hW7; replace hb := (hb).trans (hW7.mono (hb).size)) | (refine wpList_store_blk rfl 23 (.tmp 10) (.tmp 53) rfl _ 64 (quoP p Z (ofN p x)) rfl rfl 23 _ (((Blk.new W7 64 23 (fun _ => 0)).alloc (.cells (zb 64 fun _ => 0) 23))) Try.size23 ?_; try simp only [Act.put]) | (refine wpList_store_blk rfl 23 (.tmp 11) (.tmp 54) rfl _ 64 (resP p Z (ofN p x)) rfl rfl 23 _ (((show Blk ((W7.alloc (.cells (zb 64 fun _ => 0) 23)).alloc (.cells (zb 64 fun _ => 0) 23)) (W7.heap.size + 1) 64 23 (fun _ => 0) by have := Blk.new (W7.alloc (.cells (zb 64 fun _ => 0) 23)) 64 23 (fun _ => 0); simpa using this).rowOther (by omega))) Try.size23 ?_; try simp only [Act.put]))
            have lt_B0 := B0.lt
            have lt_B5 := B5.lt
            have lt_B6 := B6.lt
            have lt_B7 := B7.lt
            have lhb := hb.size
            obtain ⟨W8, hwo, hzQ⟩ : ∃ v : World, v = ((((W7.alloc (.cells (zb 64 fun _ => 0) 23)).alloc (.cells (zb 64 fun _ => 0) 23)).setRow (W7.heap.size) (zb 64 (quoP p Z (ofN p x)))).setRow (W7.heap.size + 1) (zb 64 (resP p Z (ofN p x)))) ∧ Blk v (w.heap.size) 64 23 (Z) ∧ Blk v (N1) 64 23 (ofN p x) ∧ SlT v base wr.heap.size 100 65 lst2 (facRows p (LL ++ LJ)) ∧ SzG wr.heap.size v ∧ Blk v (W7.heap.size) 64 23 (quoP p Z (ofN p x)) ∧ Blk v (W7.heap.size + 1) 64 23 (resP p Z (ofN p x)) ∧ Below w.heap.size w v := ⟨_, rfl, ((((B0.alloc (.cells (zb 64 fun _ => 0) 23)).alloc (.cells (zb 64 fun _ => 0) 23)).rowOther (by omega)).rowOther (by omega)), ((((B5.alloc (.cells (zb 64 fun _ => 0) 23)).alloc (.cells (zb 64 fun _ => 0) 23)).rowOther (by omega)).rowOther (by omega)), ((((B6.alloc (.cells (zb 64 fun _ => 0) 23)).alloc (.cells (zb 64 fun _ => 0) 23)).rowOther (by omega)).rowOther (by omega)), ((((B7.alloc (.cells (zb 64 fun _ => 0) 23)).alloc (.cells (zb 64 fun _ => 0) 23)).rowOther (by omega)).rowOther (by omega)), ((((Blk.new W7 64 23 (fun _ => 0)).alloc (.cells (zb 64 fun _ => 0) 23)).row (quoP p Z (ofN p x))).rowOther (by omega)), (((show Blk ((W7.alloc (.cells (zb 64 fun _ => 0) 23)).alloc (.cells (zb 64 fun _ => 0) 23)) (W7.heap.size + 1) 64 23 (fun _ => 0) by have := Blk.new (W7.alloc (.cells (zb 64 fun _ => 0) 23)) 64 23 (fun _ => 0); simpa using this).rowOther (by omega)).row (resP p Z (ofN p x))), (zr (zr ((hb.alloc (by have := hb.size; simp; omega) (.cells (zb 64 fun _ => 0) 23)).alloc (by have := hb.size; simp; omega) (.cells (zb 64 fun _ => 0) 23)) (by omega) _) (by omega) _)⟩
            rw [← hwo]
            clear hwo B0 B5 B6 B7 hb
            obtain ⟨B0, B5, B6, B7, B8, B9, hb⟩ := hzQ
            obtain ⟨N2, hNN⟩ : ∃ n : Nat, n = W7.heap.size := ⟨_, rfl⟩
            rw [← hNN] at lt_B0 lt_B5 lt_B6 lt_B7 lhb B8 B9 ⊢
            clear hNN
            have zN2_0 := lt_B0
            have zN2_5 := lt_B5
            have zN2_6 := lt_B6
            have zN2_7 := lt_B7
            have zN2 := lhb
            clear lt_B0 lt_B5 lt_B6 lt_B7 lhb
            try simp only [Act.put, pA, pB, pC]
            clear HDV
            by_cases hz : deg (resP p Z (ofN p x)) < 0
            · have HV := Lib.hid (show dvo p (ofN p x) 64 Y = ((dvo p (ofN p x) fu2 (quoP p Z (ofN p x))).1 + (i0 + 1), (dvo p (ofN p x) fu2 (quoP p Z (ofN p x))).2) by
               rw [hDE.out, dvo_yes hz]; congr 1; omega)
              obtain ⟨hq0, hqd⟩ := quo_nz hpr hZ.out (fun k _ => ofN_lt p0 x k) HMX.out hZ0 hz
              clear hDE
              have hgd := Try.noGuard23
              have heq := fun W => zeb (P := Try.prog) W 9998 23 5 64 (resP p Z (ofN p x)) (fun _ => 0) Try.underlying23 Try.underlying5 Try.size5
              rw [eqN_zero, show decide (deg (resP p Z (ofN p x)) < 0) = true by simp [hz]] at heq
              simp only [z64] at heq
              go_upto_region 12 with (first | (refine zla (.tmp 11) B9 Try.underlying23 Try.size23 ?_))
              clear heq hgd hz
              have lt_B0 := B0.lt
              have lt_B5 := B5.lt
              have lt_B6 := B6.lt
              have lt_B7 := B7.lt
              have lt_B8 := B8.lt
              have lt_B9 := B9.lt
              go_upto_region 13 with (first | rw [← z64] | (refine zla (.tmp 10) B8 Try.underlying23 Try.size23 ?_) | (refine zsr (.tmp 3) (.tmp 58) (quoP p Z (ofN p x)) B0 Try.size23 ?_; try simp only [Act.put]))
              obtain ⟨W9, hwo, hzQ⟩ : ∃ v : World, v = (W8.setRow (w.heap.size) (zb 64 (quoP p Z (ofN p x)))) ∧ Blk v (w.heap.size) 64 23 (quoP p Z (ofN p x)) ∧ Blk v (N1) 64 23 (ofN p x) ∧ SlT v base wr.heap.size 100 65 lst2 (facRows p (LL ++ LJ)) ∧ SzG wr.heap.size v ∧ Blk v (N2) 64 23 (quoP p Z (ofN p x)) ∧ Blk v (N2 + 1) 64 23 (resP p Z (ofN p x)) ∧ Below w.heap.size w v := ⟨_, rfl, (B0.row (quoP p Z (ofN p x))), (B5.rowOther (by omega)), (B6.rowOther (by omega)), (B7.rowOther (by omega)), (B8.rowOther (by omega)), (B9.rowOther (by omega)), (zr hb (by omega) _)⟩
              rw [← hwo]
              clear hwo B0 B5 B6 B7 B8 B9 hb
              obtain ⟨B0, B5, B6, B7, B8, B9, hb⟩ := hzQ
              try simp only [Act.put, pA, pB, pC]
              go_wp2_with fail
              go_roundw
              case rel => exact ⟨fu2, i0 + 1, quoP p Z (ofN p x), by have := HF2.out; omega, by go_num, HV, Lib.hid (fun k _ => quoP_lt p0 k), hq0, by omega, hb, B0, B5, B6.1, by have := B7.lt; omega⟩
              case measure => simp [intOf] <;> omega
            · have HV := Lib.hid (show dvo p (ofN p x) 64 Y = (i0, Z) by rw [hDE.out, dvo_stop hz]; simp)
              clear hDE
              have hgd := Try.noGuard23
              have heq := fun W => zeb (P := Try.prog) W 9998 23 5 64 (resP p Z (ofN p x)) (fun _ => 0) Try.underlying23 Try.underlying5 Try.size5
              rw [eqN_zero, show decide (deg (resP p Z (ofN p x)) < 0) = false by simp [hz]] at heq
              simp only [z64] at heq
              go_upto_region 14 with (first | (refine zla (.tmp 11) B9 Try.underlying23 Try.size23 ?_))
              clear heq hgd hz
              rw [HV.out] at HSN HD1 d2 d3
              by_cases hi0 : 0 < i0
              · have hi1 : 0 < (i0 : Int) := by omega
                have HSX := Lib.hid (show spI p (n + 1) (List.range' q (j + 1)) X = (LJ ++ [(x, i0)], Z) by rw [HSN.out]; unfold spN; rw [HV.out, if_pos hi0])
                clear hi0 HSN
                go_upto_region 15 with (fail)
                have lu_0 := B0.lt
                have lu_5 := B5.lt
                have lu_6 := B6.lt
                have lu_7 := B7.lt
                have lu_8 := B8.lt
                have lu_9 := B9.lt
                go_wp2_with (first | (refine zla (.tmp 8) B5 Try.underlying23 Try.size23 ?_) | (refine zbo rfl 100 _ rfl (facC (ofN p x) i0).toArray (by rw [Array.toList_map]; exact built_fac2 _ _) ?_) | (refine wpList_build1 rfl 41 _ (facC (ofN p x) i0) 65 rfl 100 Try.underlying41 Try.elemFac (by decide) (by decide) (facC_len _ _) rfl ?_; intro wa hps hba; have eB0 := B0.zw hba; have eB5 := B5.zw hba; have eB6 := B6.zw hba; have eB7 := B7.zw hba; have eB8 := B8.zw hba; have eB9 := B9.zw hba; have ehb := hb.trans (hba.mono hb.size)) | (at_builtin; refine wpList_append_sl _ rfl _ _ 41 rfl base 100 (.agg (facC (fun _ => 0) 0).toArray) 65 72 Try.underlying41 Try.infoFac (by simp [Value.cells, facC_len]) (by decide) lst2 _ rfl eB6.1 W8.heap.size (facC (ofN p x) i0) rfl (facC_len _ _) hps.range (facC_one _ _) (by rw [facRows_len, List.length_append]; unfold maxLen; omega) (by rw [facRows_len, List.length_append]; omega) ?_; intro vp wp hSp hg1; have fB0 := eB0.grownO hg1 (eB6.1.own) (base := base) (by omega); have fhb := ehb.grown hg1 ehb.size (fun k e => Nat.le_trans ybw (eB6.1.own k e))))
                go_roundw
                case rel => exact ⟨j + 1, Z, LJ ++ [(x, i0)], vp, rfl, by omega, by go_num, HSX, by simp; omega, HD1, d2, by have : deg Z ≤ deg Y := d3; omega, fhb, fB0, (by rw [← List.append_assoc, facRows_snoc]; exact hSp)⟩
                case measure => simp [intOf] <;> omega
              · have hi1 : ¬ 0 < (i0 : Int) := by omega
                have HSX := Lib.hid (show spI p (n + 1) (List.range' q (j + 1)) X = (LJ, Z) by rw [HSN.out]; unfold spN; rw [HV.out, if_neg hi0, List.append_nil])
                clear hi0 HSN
                go_wp2_with fail
                go_roundw
                case rel => exact ⟨j + 1, Z, LJ, lst2, rfl, by omega, by go_num, HSX, by omega, HD1, d2, by have : deg Z ≤ deg Y := d3; omega, hb, B0, B6.1⟩
                case measure => simp [intOf] <;> omega
          · have hge2 : deg Z < (n : Int) + 1 := by omega
            have HV := Lib.hid (show dvo p (ofN p x) 64 Y = (i0, Z) by
             rw [hDE.out, dvo_stop (by rw [deg_congr (f := resP p Z (ofN p x)) (g := Z) (fun k hk => resP_small p0 hZ.out (by rw [HDX.out]; omega) k hk)]; omega)]; simp)
            clear hDE hge
            go_upto_region 14 with (first | (refine zla (.tmp 3) B0 Try.underlying23 Try.size23 ?_) | (go_at_call 88; refine (l01Deg_any Z _).mono ?_; rintro e W6 ⟨rfl, hW6⟩; replace B0 := B0.zw hW6; replace B5 := B5.zw hW6; replace B6 := B6.zw hW6; replace B7 := B7.zw hW6; replace hb := (hb).trans (hW6.mono (hb).size)))
            rw [HV.out] at HSN HD1 d2 d3
            by_cases hi0 : 0 < i0
            · have hi1 : 0 < (i0 : Int) := by omega
              have HSX := Lib.hid (show spI p (n + 1) (List.range' q (j + 1)) X = (LJ ++ [(x, i0)], Z) by rw [HSN.out]; unfold spN; rw [HV.out, if_pos hi0])
              clear hi0 HSN
              go_upto_region 15 with (fail)
              have lu_0 := B0.lt
              have lu_5 := B5.lt
              have lu_6 := B6.lt
              have lu_7 := B7.lt
              go_wp2_with (first | (refine zla (.tmp 8) B5 Try.underlying23 Try.size23 ?_) | (refine zbo rfl 100 _ rfl (facC (ofN p x) i0).toArray (by rw [Array.toList_map]; exact built_fac2 _ _) ?_) | (refine wpList_build1 rfl 41 _ (facC (ofN p x) i0) 65 rfl 100 Try.underlying41 Try.elemFac (by decide) (by decide) (facC_len _ _) rfl ?_; intro wa hps hba; have eB0 := B0.zw hba; have eB5 := B5.zw hba; have eB6 := B6.zw hba; have eB7 := B7.zw hba; have ehb := hb.trans (hba.mono hb.size)) | (at_builtin; refine wpList_append_sl _ rfl _ _ 41 rfl base 100 (.agg (facC (fun _ => 0) 0).toArray) 65 72 Try.underlying41 Try.infoFac (by simp [Value.cells, facC_len]) (by decide) lst2 _ rfl eB6.1 W6.heap.size (facC (ofN p x) i0) rfl (facC_len _ _) hps.range (facC_one _ _) (by rw [facRows_len, List.length_append]; unfold maxLen; omega) (by rw [facRows_len, List.length_append]; omega) ?_; intro vp wp hSp hg1; have fB0 := eB0.grownO hg1 (eB6.1.own) (base := base) (by omega); have fhb := ehb.grown hg1 ehb.size (fun k e => Nat.le_trans ybw (eB6.1.own k e))))
              go_roundw
              case rel => exact ⟨j + 1, Z, LJ ++ [(x, i0)], vp, rfl, by omega, by go_num, HSX, by simp; omega, HD1, d2, by have : deg Z ≤ deg Y := d3; omega, fhb, fB0, (by rw [← List.append_assoc, facRows_snoc]; exact hSp)⟩
              case measure => simp [intOf] <;> omega
            · have hi1 : ¬ 0 < (i0 : Int) := by omega
              have HSX := Lib.hid (show spI p (n + 1) (List.range' q (j + 1)) X = (LJ, Z) by rw [HSN.out]; unfold spN; rw [HV.out, if_neg hi0, List.append_nil])
              clear hi0 HSN
              go_wp2_with fail
              go_roundw
              case rel => exact ⟨j + 1, Z, LJ, lst2, rfl, by omega, by go_num, HSX, by omega, HD1, d2, by have : deg Z ≤ deg Y := d3; omega, hb, B0, B6.1⟩
              case measure => simp [intOf] <;> omega
       · 
         have HSF := Lib.hid (show spI p (n + 1) (monL p (n + 1)) X = (LJ, Y) by unfold monL; rw [← HQ.out, show List.range' q q = List.range' q j ++ List.range' (q + j) (q - j) by rw [List.range'_append_1]; congr 1; omega, spI_more _ _ (by rw [hSI.out]; push_cast; exact hdY)]; exact hSI.out)
         have HEN := Lib.hid (show spO p 64 1 f = ((LL ++ LJ) ++ (spO p fu (n + 1 + 1) Y).1, (spO p fu (n + 1 + 1) Y).2) by rw [hE.out, HSS.out, HSF.out, List.append_assoc])
         have hLb : (LL ++ LJ).length ≤ (n + 1) * 13841287202 := by rw [List.length_append]; omega
         clear hSI hE
         have B3 := hS.top
         have B4 : SzG wr.heap.size wr := Nat.le_refl _
         clear hS
         go_upto_region 4 with (first | (go_at_call 99; refine (HCQ.out _).mono ?_; rintro e wS ⟨rfl, rfl⟩) | (refine zlg rfl 23 (.tmp 3) rfl _ rfl 64 23 _ (B0) _ Try.underlying23 rfl Try.size23 ?_) | (go_at_call 88; refine (l01Deg_any Y _).mono ?_; rintro e W3 ⟨rfl, hW3⟩; replace B0 := B0.zw hW3; replace B3 := B3.zw hW3; replace B4 := B4.zw hW3; replace hb := (hb).trans (hW3.mono (hb).size)))
         go_wp2_with fail
         go_roundw
         case rel => exact ⟨fu, n + 1, Y, LL ++ LJ, lst2, rfl, by have := HFU.out; omega, by go_num, HEN, hY, hY0, hY12, hLb, hb, B0, B3.1⟩
         case measure => simp [intOf] <;> omega
     · have hjq2 : j = q := by omega
       have hcj : ¬ (q : Int) + (j : Int) < 2 * (q : Int) := by omega
       clear hj
       have HSF := Lib.hid (show spI p (n + 1) (monL p (n + 1)) X = (LJ, Y) by unfold monL; rw [← HQ.out]; have := hSI.out; rw [hjq2] at this; exact this)
       have HEN := Lib.hid (show spO p 64 1 f = ((LL ++ LJ) ++ (spO p fu (n + 1 + 1) Y).1, (spO p fu (n + 1 + 1) Y).2) by rw [hE.out, HSS.out, HSF.out, List.append_assoc])
       have hLb : (LL ++ LJ).length ≤ (n + 1) * 13841287202 := by rw [List.length_append]; omega
       clear hSI hE
       have B3 := hS.top
       have B4 : SzG wr.heap.size wr := Nat.le_refl _
       clear hS
       go_upto_region 4 with (first | (go_at_call 99; refine (HCQ.out _).mono ?_; rintro e wS ⟨rfl, rfl⟩))
       go_wp2_with fail
       go_roundw
       case rel => exact ⟨fu, n + 1, Y, LL ++ LJ, lst2, rfl, by have := HFU.out; omega, by go_num, HEN, hY, hY0, hY12, hLb, hb, B0, B3.1⟩
       case measure => simp [intOf] <;> omega
  · have HR := Lib.hid (show run p 64 1 f = LL ++ finL p X ∧ ∀ x, x ∈ LL → ¬ dv p (lz (ofN p x.1)) (lz X) by
     obtain ⟨_, _, _, q4⟩ := HLEFT.out
     have e := hE.out
     rw [spO_stop (p := p) (f := fu) (n := n + 1) (a := X) (by push_cast; exact hd), List.append_nil] at e
     rw [HEND.out]
     rw [e] at q4 ⊢
     exact ⟨rfl, q4⟩)
    have hn64 : n ≤ 64 := by have := HFU.out; omega
    clear hE HEND HLEFT HFU HLF
    have B1 := hS.top
    have B2 : SzG wr.heap.size wr := Nat.le_refl _
    clear hS
    go_upto_region 16 with (first | (refine zla (.tmp 3) B0 Try.underlying23 Try.size23 ?_) | (go_at_call 88; refine (l01Deg_any X _).mono ?_; rintro e W2 ⟨rfl, hW2⟩; replace B0 := B0.zw hW2; replace B1 := B1.zw hW2; replace B2 := B2.zw hW2; replace hb := (hb).trans (hW2.mono (hb).size)))
    go_upto_region 17 with (first | (refine zla (.tmp 3) B0 Try.underlying23 Try.size23 ?_) | (go_at_call 88; refine (l01Deg_any X _).mono ?_; rintro e W3 ⟨rfl, hW3⟩; replace B0 := B0.zw hW3; replace B1 := B1.zw hW3; replace B2 := B2.zw hW3; replace hb := (hb).trans (hW3.mono (hb).size)))
    by_cases h0X : 0 < deg X
    · go_upto_region 18 with (fail)
      obtain ⟨D, hD⟩ : ∃ D : Nat, deg X = (D : Int) := ⟨(deg X).toNat, by omega⟩
      obtain ⟨hD6, hXD, _⟩ := deg_top hD
      obtain ⟨c, hc⟩ : ∃ c, c = X D := ⟨_, rfl⟩
      have hcp : c < p := by rw [hc]; exact hX.out D hD6
      rw [← hc] at hXD
      obtain ⟨iv1, iv2, _, _⟩ := invF hpr hXD hcp
      obtain ⟨iv, hiv⟩ : ∃ v, v = invN p c := ⟨_, rfl⟩
      have HN := Lib.hid (fun W => show Calls Try.prog 156 #[.int .i64 (p : Int), .int .u8 (c : Int)] W (fun e w' => e = .returned (.int .u8 (iv : Int)) ∧ Below W.heap.size W w') by rw [hiv]; exact (l01Inverse_any p c W hpr hXD hcp).mono (by rintro e w' ⟨rfl, rfl⟩; exact ⟨rfl, Below.refl _ _⟩))
      rw [← hiv] at iv1 iv2
      have HMP := Lib.hid (show sclP p X iv = monP p X by unfold monP; rw [hD, Int.toNat_natCast, hiv, hc])
      have HA := Lib.hid (show ∀ W, Calls Try.prog 153 #[.int .i64 (p : Int), .agg (zb 64 fun _ => 0), .agg (zb 64 X), .int .i64 (iv : Int)] W fun e w' => e = .returned (.agg (zb 64 (monP p X))) ∧ Below W.heap.size W w' by
       intro W
       have := l01Add_any p (fun _ => 0) X (iv : Int) W p2 p7 (by omega) (by omega) (fun _ _ => p0) hX.out
       rwa [addK_scl, HMP.out] at this)
      have HC := Lib.hid hc
      have HRW := Lib.hid (finL_rows hpr hX.out h0X)
      have HNE := Lib.hid (fun x hx => left_ne hpr hX.out hX0 (HR.out.2 x hx))
      have HX2 := Lib.hid hD
      rw [hD] at h0X hX0 hX12
      have HD2 := Lib.hid hD
      clear hc hiv HMP
      rw [HD2.out]
      clear hD HD2 HX2
      have lt_B0 : (w.heap.size) < W3.heap.size := B0.lt
      have lt_B1 : (base) ≤ W3.heap.size := B1.lt
      have lt_B2 : (wr.heap.size) ≤ W3.heap.size := B2.lt
      have hbase : w.heap.size ≤ W3.heap.size := hb.size
      refine zq Try.mixed (by kernel_rfl) (by kernel_rfl) (fun v => by (simp only [frL, Act.put, pA, pB, pC, Nat.reduceAdd, Nat.zero_add]; exact rfl))
       (fun L v W4 => Below w.heap.size w W4 ∧ W3.heap.size ≤ W4.heap.size ∧ Blk W4 (w.heap.size) 64 23 (X) ∧ SlT W4 base wr.heap.size 100 65 lst (facRows p LL) ∧ SzG wr.heap.size W4 ∧ (L 0 = true → v 0 = (.int .i64 (p : Int))) ∧ (L 1 = true → v 1 = (.agg (zb 64 (fun _ => 0)))) ∧ (L 2 = true → v 2 = (.agg (zb 64 (X)))) ∧ (L 3 = true → v 3 = (.int .i64 (p : Int))) ∧ (L 4 = true → v 4 = (.int .i64 (D : Int))) ∧ (L 5 = true → v 5 = (.pointer (some ⟨w.heap.size, D, none⟩))) ∧ (L 6 = true → v 6 = (.int .u8 (c : Int))) ∧ (L 7 = true → v 7 = (.int .u8 (iv : Int))) ∧ (L 8 = true → v 8 = (.int .i64 (iv : Int))) ∧ (L 9 = true → v 9 = (.agg (zb 64 (monP p X)))) ∧ (L 10 = true → AF (v 10) W4 W3.heap.size 64 23) ∧ (L 11 = true → PF (v 10) W4 W3.heap.size 64 23 (monP p X))) ?_ ?_ ?_
      · intro v hv0
        exact ⟨hb.drew, Nat.le_refl _, B0.drew, B1.drew, B2.drew, (fun h => by cases h), (fun h => by cases h), (fun h => by cases h), (fun h => by cases h), (fun h => by cases h), (fun h => by cases h), (fun h => by cases h), (fun h => by cases h), (fun h => by cases h), (fun h => by cases h), (fun h => by cases h), (fun h => by cases h)⟩
      · refine (.cons rfl ?_ (.cons rfl ?_ (.cons rfl ?_ (.cons rfl ?_ (.cons rfl ?_ (.cons rfl ?_ (.cons rfl ?_ (.cons rfl ?_ (.cons rfl ?_ (.cons rfl ?_ (.cons rfl ?_ (.cons rfl ?_ (.nil _)))))))))))))
        all_goals intro L v W4 hd hn ⟨hB, hz, s0, s1, s2, h0, h1, h2, h3, h4, h5, h6, h7, h8, h9, h10, h11⟩ K hK
        · go_wp2_with fail
          exact hK _ (.int .i64 (p : Int)) _ (by simp only [Act.put, pA, pB, pC ]) ⟨hB, hz, s0, s1, s2, (fun _ => rfl), h1, h2, h3, h4, h5, h6, h7, h8, h9, h10, h11⟩
        · go_wp2_with fail
          rw [← z64]
          exact hK _ (.agg (zb 64 (fun _ => 0))) _ (by simp only [Act.put, pA, pB, pC ]) ⟨hB, hz, s0, s1, s2, h0, (fun _ => rfl), h2, h3, h4, h5, h6, h7, h8, h9, h10, h11⟩
        · refine zlc s0 Try.underlying23 Try.size23 ?_
          exact hK _ _ _ rfl ⟨hB, hz, s0, s1, s2, h0, h1, (fun _ => rfl), h3, h4, h5, h6, h7, h8, h9, h10, h11⟩
        · go_wp2_with fail
          exact hK _ (.int .i64 (p : Int)) _ (by simp only [Act.put, pA, pB, pC ]) ⟨hB, hz, s0, s1, s2, h0, h1, h2, (fun _ => rfl), h4, h5, h6, h7, h8, h9, h10, h11⟩
        · go_wp2_with fail
          exact hK _ (.int .i64 (D : Int)) _ (by simp only [Act.put, pA, pB, pC ]) ⟨hB, hz, s0, s1, s2, h0, h1, h2, h3, (fun _ => rfl), h5, h6, h7, h8, h9, h10, h11⟩
        · have e4 := h4 (zdq hd 4 rfl)
          go_wp2_with fail
          exact hK _ (.pointer (some ⟨w.heap.size, D, none⟩)) _ (by simp only [Act.put, pA, pB, pC, e4]) ⟨hB, hz, s0, s1, s2, h0, h1, h2, h3, h4, (fun _ => rfl), h6, h7, h8, h9, h10, h11⟩
        · have e5 := h5 (zdq hd 5 rfl)
          have cc := s0.cell (i := D) hD6
          rw [← HC.out] at cc
          go_wp2_with fail
          exact hK _ (.int .u8 (c : Int)) _ (by simp only [Act.put, pA, pB, pC, e5]) ⟨hB, hz, s0, s1, s2, h0, h1, h2, h3, h4, h5, (fun _ => rfl), h7, h8, h9, h10, h11⟩
        · have e3 := h3 (zdq hd 3 rfl)
          have e6 := h6 (zdq hd 6 rfl)
          go_wp2_with (go_at_call 156; refine (HN.out _).mono ?_; rintro e wy ⟨rfl, hy⟩)
          exact hK _ (.int .u8 (iv : Int)) _ (by simp only [Act.put, pA, pB, pC, e3, e6]) ⟨hB.trans (hy.mono hB.size), (Nat.le_trans hz hy.size), s0.zw hy, s1.zw hy, s2.zw hy, h0, h1, h2, h3, h4, h5, h6, (fun _ => rfl), h8, h9, (fun h => (h10 h).below hy), (fun h => (h11 h).below hy)⟩
        · have e7 := h7 (zdq hd 7 rfl)
          go_wp2_with fail
          exact hK _ (.int .i64 (iv : Int)) _ (by simp only [Act.put, pA, pB, pC, e7]) ⟨hB, hz, s0, s1, s2, h0, h1, h2, h3, h4, h5, h6, h7, (fun _ => rfl), h9, h10, h11⟩
        · have e0 := h0 (zdq hd 0 rfl)
          have e1 := h1 (zdq hd 1 rfl)
          have e2 := h2 (zdq hd 2 rfl)
          have e8 := h8 (zdq hd 8 rfl)
          go_wp2_with (go_at_call 153; refine (HA.out _).mono ?_; rintro e wy ⟨rfl, hy⟩)
          exact hK _ (.agg (zb 64 (monP p X))) _ (by simp only [Act.put, pA, pB, pC, e0, e1, e2, e8]) ⟨hB.trans (hy.mono hB.size), (Nat.le_trans hz hy.size), s0.zw hy, s1.zw hy, s2.zw hy, h0, h1, h2, h3, h4, h5, h6, h7, h8, (fun _ => rfl), (fun h => (h10 h).below hy), (fun h => (h11 h).below hy)⟩
        · go_wp2_with fail
          rw [← z64]
          exact hK _ (.pointer (some ⟨W4.heap.size, 0, none⟩)) _ (by simp only [Act.put, pA, pB, pC ]) ⟨hB.alloc hB.size _, (by simp; omega), (s0).alloc _, (s1).alloc _, (s2).alloc _, h0, h1, h2, h3, h4, h5, h6, h7, h8, h9, (fun _ => (PF.new W4 64 23 _ hz).af), (fun h => absurd rfl (hn 11 _ rfl h ⟨10, .data⟩ (by simp) rfl))⟩
        · have e9 := h9 (zdq hd 9 rfl)
          obtain ⟨gz, b, ea, hN, hk⟩ := (h10 (zdq hd 10 rfl)).out
          refine zsb 23 _ _ rfl b 64 (monP p X) ea e9 23 gz hk Try.size23 ?_
          exact hK _ undef _ rfl ⟨zr hB (Nat.le_trans hbase hN) _, (by simpa [World.setRow] using hz), (s0).rowOther (by omega), (s1).rowOther (by omega), (s2).rowOther (by omega), h0, h1, h2, h3, h4, h5, h6, h7, h8, h9, (fun h => (h10 h).row hk), (fun _ => by rw [show updV v 11 undef 10 = v 10 from rfl, ea]; exact PF.row hk hN _)⟩
      · intro L v W4 hL ⟨hB, hz, s0, s1, s2, h0, h1, h2, h3, h4, h5, h6, h7, h8, h9, h10, h11⟩
        have e0 := h0 (hL 0 (by decide))
        have e1 := h1 (hL 1 (by decide))
        have e2 := h2 (hL 2 (by decide))
        have e3 := h3 (hL 3 (by decide))
        have e4 := h4 (hL 4 (by decide))
        have e5 := h5 (hL 5 (by decide))
        have e6 := h6 (hL 6 (by decide))
        have e7 := h7 (hL 7 (by decide))
        have e8 := h8 (hL 8 (by decide))
        have e9 := h9 (hL 9 (by decide))
        obtain ⟨k18_10, e10, hNk18_10, hk18_10⟩ := (h11 (hL 11 (by decide))).out
        clear hL h0 h1 h2 h3 h4 h5 h6 h7 h8 h9 h10 h11
        simp only [Exit.then, e0, e1, e2, e3, e4, e5, e6, e7, e8, e9, e10]
        clear e0 e1 e2 e3 e4 e5 e6 e7 e8 e9 e10
        replace B0 := s0
        clear s0
        replace B1 := s1
        clear s1
        replace B2 := s2
        clear s2
        replace hb := hB
        clear hB
        have B3 := hk18_10
        clear hk18_10
        have zk18_10_0 : w.heap.size < k18_10 := by omega
        have zk18_10_1 : base ≤ k18_10 := by omega
        have zk18_10_2 : wr.heap.size ≤ k18_10 := by omega
        clear hbase hz lt_B0 lt_B1 lt_B2
        go_upto_region 19 with (fail)
        clear HN HA HC
        rcases List.eq_nil_or_concat LL with rfl | ⟨LI, x, rfl⟩
        · have hLq : ([] : List (Nat × Nat)).length ≤ n * 13841287202 := hLL
          obtain ⟨a0, cap0, rfl⟩ : ∃ a cap, lst = .slice a 0 cap := by
           rcases B1.1.shape with ⟨h1, _⟩ | ⟨g, cap, h1⟩
           · exact ⟨_, _, h1⟩
           · exact ⟨_, _, by rw [h1]; unfold facRows; rfl⟩
          go_upto_region 20 with (fail)
          refine wp_region_stepsG Try.mixed (by kernel_rfl) (by kernel_rfl) (fun v => by (simp only [frL, Act.put, pA, pB, pC, Nat.reduceAdd, Nat.zero_add]; exact rfl))
           (fun L v wx => Below w.heap.size w wx ∧ Blk wx (k18_10) 64 23 (monP p X) ∧ SlT wx base wr.heap.size 100 65 (.slice a0 0 cap0) (facRows p []) ∧ (L 0 = true → v 0 = (.int .i64 (-1))) ∧ (L 1 = true → v 1 = (.bool false)) ∧ (L 2 = true → v 2 = (.bool false)) ∧ (L 3 = true → v 3 = undef) ∧ (L 4 = true → v 4 = undef) ∧ (L 5 = true → v 5 = undef) ∧ (L 6 = true → v 6 = undef) ∧ (L 7 = true → v 7 = undef) ∧ (L 8 = true → v 8 = undef) ∧ (L 9 = true → v 9 = undef) ∧ (L 10 = true → v 10 = (.bool false))) ?_ ?_ ?_
          · intro v hv0
            exact ⟨hb.drew, B3.drew, B1.drew, (fun h => by cases h), (fun h => by cases h), (fun h => by cases h), (fun h => by cases h), (fun h => by cases h), (fun h => by cases h), (fun h => by cases h), (fun h => by cases h), (fun h => by cases h), (fun h => by cases h), (fun h => by cases h)⟩
          · refine (.cons ?_ (.cons ?_ (.cons ?_ (.cons ?_ (.cons ?_ (.cons ?_ (.cons ?_ (.cons ?_ (.cons ?_ (.cons ?_ (.cons ?_ (.nil _))))))))))))
            · intro L v wx hd hn ⟨hB, s0, s1, h0, h1, h2, h3, h4, h5, h6, h7, h8, h9, h10⟩ K hK
              rw [if_pos (by simp [Region.wanted])]
              go_wp2_with fail
              exact hK _ (.int .i64 (-1)) _ (by simp only [Act.put, pA, pB, pC]) ⟨hB, s0, s1, (fun _ => rfl), h1, h2, h3, h4, h5, h6, h7, h8, h9, h10⟩
            · intro L v wx hd hn ⟨hB, s0, s1, h0, h1, h2, h3, h4, h5, h6, h7, h8, h9, h10⟩ K hK
              have e0 := h0 (zdq hd 0 rfl)
              rw [if_pos (by simp [Region.wanted])]
              go_wp2_with fail
              exact hK _ (.bool false) _ (by simp only [Act.put, pA, pB, pC, e0]) ⟨hB, s0, s1, h0, (fun _ => rfl), h2, h3, h4, h5, h6, h7, h8, h9, h10⟩
            · intro L v wx hd hn ⟨hB, s0, s1, h0, h1, h2, h3, h4, h5, h6, h7, h8, h9, h10⟩ K hK
              have e1 := h1 (zdq hd 1 rfl)
              rw [if_pos (by simp [Region.wanted])]
              go_wp2_with fail
              exact hK _ (.bool false) _ (by simp only [Act.put, pA, pB, pC, e1]) ⟨hB, s0, s1, h0, h1, (fun _ => rfl), h3, h4, h5, h6, h7, h8, h9, h10⟩
            · intro L v wx hd hn ⟨hB, s0, s1, h0, h1, h2, h3, h4, h5, h6, h7, h8, h9, h10⟩ K hK
              have e2 := h2 (zdq hd 2 rfl)
              rw [if_neg (by simp [Region.wanted, yielded, e2])]
              exact hK _ undef _ rfl ⟨hB, s0, s1, h0, h1, h2, (fun _ => rfl), h4, h5, h6, h7, h8, h9, h10⟩
            · intro L v wx hd hn ⟨hB, s0, s1, h0, h1, h2, h3, h4, h5, h6, h7, h8, h9, h10⟩ K hK
              have e2 := h2 (zdq hd 2 rfl)
              rw [if_neg (by simp [Region.wanted, yielded, e2])]
              exact hK _ undef _ rfl ⟨hB, s0, s1, h0, h1, h2, h3, (fun _ => rfl), h5, h6, h7, h8, h9, h10⟩
            · intro L v wx hd hn ⟨hB, s0, s1, h0, h1, h2, h3, h4, h5, h6, h7, h8, h9, h10⟩ K hK
              have e3 := h3 (zdq hd 3 rfl)
              have e4 := h4 (zdq hd 4 rfl)
              have e2 := h2 (zdq hd 2 rfl)
              rw [if_neg (by simp [Region.wanted, yielded, e2])]
              exact hK _ undef _ rfl ⟨hB, s0, s1, h0, h1, h2, h3, h4, (fun _ => rfl), h6, h7, h8, h9, h10⟩
            · intro L v wx hd hn ⟨hB, s0, s1, h0, h1, h2, h3, h4, h5, h6, h7, h8, h9, h10⟩ K hK
              have e5 := h5 (zdq hd 5 rfl)
              have e2 := h2 (zdq hd 2 rfl)
              rw [if_neg (by simp [Region.wanted, yielded, e2])]
              exact hK _ undef _ rfl ⟨hB, s0, s1, h0, h1, h2, h3, h4, h5, (fun _ => rfl), h7, h8, h9, h10⟩
            · intro L v wx hd hn ⟨hB, s0, s1, h0, h1, h2, h3, h4, h5, h6, h7, h8, h9, h10⟩ K hK
              have e6 := h6 (zdq hd 6 rfl)
              have e2 := h2 (zdq hd 2 rfl)
              rw [if_neg (by simp [Region.wanted, yielded, e2])]
              exact hK _ undef _ rfl ⟨hB, s0, s1, h0, h1, h2, h3, h4, h5, h6, (fun _ => rfl), h8, h9, h10⟩
            · intro L v wx hd hn ⟨hB, s0, s1, h0, h1, h2, h3, h4, h5, h6, h7, h8, h9, h10⟩ K hK
              have e2 := h2 (zdq hd 2 rfl)
              rw [if_neg (by simp [Region.wanted, yielded, e2])]
              exact hK _ undef _ rfl ⟨hB, s0, s1, h0, h1, h2, h3, h4, h5, h6, h7, (fun _ => rfl), h9, h10⟩
            · intro L v wx hd hn ⟨hB, s0, s1, h0, h1, h2, h3, h4, h5, h6, h7, h8, h9, h10⟩ K hK
              have e7 := h7 (zdq hd 7 rfl)
              have e8 := h8 (zdq hd 8 rfl)
              have e2 := h2 (zdq hd 2 rfl)
              rw [if_neg (by simp [Region.wanted, yielded, e2])]
              exact hK _ undef _ rfl ⟨hB, s0, s1, h0, h1, h2, h3, h4, h5, h6, h7, h8, (fun _ => rfl), h10⟩
            · intro L v wx hd hn ⟨hB, s0, s1, h0, h1, h2, h3, h4, h5, h6, h7, h8, h9, h10⟩ K hK
              have e2 := h2 (zdq hd 2 rfl)
              rw [if_pos (by simp [Region.wanted])]
              go_wp2_with fail
              exact hK _ (.bool false) _ (by simp only [Act.put, pA, pB, pC, e2]) ⟨hB, s0, s1, h0, h1, h2, h3, h4, h5, h6, h7, h8, h9, (fun _ => rfl)⟩
          · intro L v wx hL ⟨hB, s0, s1, h0, h1, h2, h3, h4, h5, h6, h7, h8, h9, h10⟩
            have e10 := h10 (hL 10 (by decide))
            simp only [Exit.then, e10]
            clear hL hb B0 B1 B2 B3 h0 h1 h2 h3 h4 h5 h6 h7 h8 h9 h10
            have hb := hB
            have B3 := s0
            have B1 := s1
            clear hB s0 s1 e10
            have lu_1 := B1.lt
            have lu_3 := B3.lt
            go_wp2_with (first | (refine zla (.tmp 13) B3 Try.underlying23 Try.size23 ?_) | (refine zbo rfl 100 _ rfl (facC (monP p X) 1).toArray (by rw [Array.toList_map]; exact built_fac2 _ 1) ?_) | (refine wpList_build1 rfl 41 _ (facC (monP p X) 1) 65 rfl 100 Try.underlying41 Try.elemFac (by decide) (by decide) (facC_len _ _) rfl ?_; intro wa hps hba; have eB1 := B1.zw hba; have eB3 := B3.zw hba; have ehb := hb.trans (hba.mono hb.size)) | (at_builtin; refine wpList_append_sl _ rfl _ _ 41 rfl base 100 (.agg (facC (fun _ => 0) 0).toArray) 65 72 Try.underlying41 Try.infoFac (by simp [Value.cells, facC_len]) (by decide) (.slice a0 0 cap0) _ rfl eB1.1 wx.heap.size (facC (monP p X) 1) rfl (facC_len _ _) hps.range (facC_one _ _) (by rw [facRows_len]; unfold maxLen; omega) (by rw [facRows_len]; omega) ?_; intro vp wp hSp hg1; have fhb := ehb.grown hg1 ehb.size (fun k e => Nat.le_trans ybw (eB1.1.own k e))))
            go_ret
            exact ⟨_, rfl, by rw [HR.out.1, facRows_app, HRW.out]; exact hSp.base ybw, fhb⟩
        · rw [List.concat_eq_append] at *
          obtain ⟨g, cap0, rfl⟩ : ∃ g cap, lst = .slice (some ⟨g, 0, none⟩) (LI.length + 1) cap := by
           rcases B1.1.shape with ⟨_, h1⟩ | ⟨g, cap, h1⟩
           · simp [facRows] at h1
           · exact ⟨g, cap, by rw [h1, facRows_len, List.length_append]; rfl⟩
          have hLq : (LI ++ [x]).length ≤ n * 13841287202 := hLL
          rw [List.length_append] at hLL
          have hLI : LI.length + 1 ≤ n * 13841287202 := hLL
          have HNX := Lib.hid (HNE.out x (by simp))
          obtain ⟨J, hJ⟩ : ∃ J, J = LI.length := ⟨_, rfl⟩
          rw [← hJ] at hLI B1 ⊢
          have HJ := Lib.hid hJ
          clear hJ hLL HNE
          go_upto_region 20 with (fail)
          have hgd := Try.noGuard23
          have heq := fun W => zeb (P := Try.prog) W 9998 23 5 64 (ofN p x.1) (monP p X) Try.underlying23 Try.underlying5 Try.size5
          rw [HNX.out] at heq
          refine wp_region_stepsG Try.mixed (by kernel_rfl) (by kernel_rfl) (fun v => by (simp only [frL, Act.put, pA, pB, pC, Nat.reduceAdd, Nat.zero_add]; exact rfl))
           (fun L v wx => Below w.heap.size w wx ∧ Blk wx (k18_10) 64 23 (monP p X) ∧ SlT wx base wr.heap.size 100 65 (.slice (some ⟨g, 0, none⟩) (J + 1) cap0) (facRows p (LI ++ [x])) ∧ (L 0 = true → v 0 = (.int .i64 (J : Int))) ∧ (L 1 = true → v 1 = (.bool true)) ∧ (L 2 = true → v 2 = (.bool true)) ∧ (L 3 = true → v 3 = (.slice (some ⟨g, 0, none⟩) (J + 1) cap0)) ∧ (L 4 = true → v 4 = (.int .i64 (J : Int))) ∧ (L 5 = true → v 5 = (.pointer (some ⟨g, J * 65, none⟩))) ∧ (L 6 = true → v 6 = (.pointer (some ⟨g, J * 65, none⟩))) ∧ (L 7 = true → v 7 = (.agg (zb 64 (ofN p x.1)))) ∧ (L 8 = true → v 8 = (.agg (zb 64 (monP p X)))) ∧ (L 9 = true → v 9 = (.bool false)) ∧ (L 10 = true → v 10 = (.bool false))) ?_ ?_ ?_
          · intro v hv0
            exact ⟨hb.drew, B3.drew, B1.drew, (fun h => by cases h), (fun h => by cases h), (fun h => by cases h), (fun h => by cases h), (fun h => by cases h), (fun h => by cases h), (fun h => by cases h), (fun h => by cases h), (fun h => by cases h), (fun h => by cases h), (fun h => by cases h)⟩
          · refine (.cons ?_ (.cons ?_ (.cons ?_ (.cons ?_ (.cons ?_ (.cons ?_ (.cons ?_ (.cons ?_ (.cons ?_ (.cons ?_ (.cons ?_ (.nil _))))))))))))
            · intro L v wx hd hn ⟨hB, s0, s1, h0, h1, h2, h3, h4, h5, h6, h7, h8, h9, h10⟩ K hK
              rw [if_pos (by simp [Region.wanted])]
              go_wp2_with fail
              exact hK _ (.int .i64 (J : Int)) _ (by simp only [Act.put, pA, pB, pC]) ⟨hB, s0, s1, (fun _ => rfl), h1, h2, h3, h4, h5, h6, h7, h8, h9, h10⟩
            · intro L v wx hd hn ⟨hB, s0, s1, h0, h1, h2, h3, h4, h5, h6, h7, h8, h9, h10⟩ K hK
              have e0 := h0 (zdq hd 0 rfl)
              rw [if_pos (by simp [Region.wanted])]
              go_wp2_with fail
              exact hK _ (.bool true) _ (by simp only [Act.put, pA, pB, pC, e0]) ⟨hB, s0, s1, h0, (fun _ => rfl), h2, h3, h4, h5, h6, h7, h8, h9, h10⟩
            · intro L v wx hd hn ⟨hB, s0, s1, h0, h1, h2, h3, h4, h5, h6, h7, h8, h9, h10⟩ K hK
              have e1 := h1 (zdq hd 1 rfl)
              rw [if_pos (by simp [Region.wanted])]
              go_wp2_with fail
              exact hK _ (.bool true) _ (by simp only [Act.put, pA, pB, pC, e1]) ⟨hB, s0, s1, h0, h1, (fun _ => rfl), h3, h4, h5, h6, h7, h8, h9, h10⟩
            · intro L v wx hd hn ⟨hB, s0, s1, h0, h1, h2, h3, h4, h5, h6, h7, h8, h9, h10⟩ K hK
              have e2 := h2 (zdq hd 2 rfl)
              rw [if_pos (by simp [Region.wanted, yielded, e2])]
              go_wp2_with fail
              exact hK _ (.slice (some ⟨g, 0, none⟩) (J + 1) cap0) _ (by simp only [Act.put, pA, pB, pC, e2]) ⟨hB, s0, s1, h0, h1, h2, (fun _ => rfl), h4, h5, h6, h7, h8, h9, h10⟩
            · intro L v wx hd hn ⟨hB, s0, s1, h0, h1, h2, h3, h4, h5, h6, h7, h8, h9, h10⟩ K hK
              have e2 := h2 (zdq hd 2 rfl)
              rw [if_pos (by simp [Region.wanted, yielded, e2])]
              go_wp2_with fail
              exact hK _ (.int .i64 (J : Int)) _ (by simp only [Act.put, pA, pB, pC, e2]) ⟨hB, s0, s1, h0, h1, h2, h3, (fun _ => rfl), h5, h6, h7, h8, h9, h10⟩
            · intro L v wx hd hn ⟨hB, s0, s1, h0, h1, h2, h3, h4, h5, h6, h7, h8, h9, h10⟩ K hK
              have e3 := h3 (zdq hd 3 rfl)
              have e4 := h4 (zdq hd 4 rfl)
              have e2 := h2 (zdq hd 2 rfl)
              rw [if_pos (by simp [Region.wanted, yielded, e2])]
              go_wp2_with fail
              exact hK _ (.pointer (some ⟨g, J * 65, none⟩)) _ (by simp only [Act.put, pA, pB, pC, e3, e4, e2]) ⟨hB, s0, s1, h0, h1, h2, h3, h4, (fun _ => rfl), h6, h7, h8, h9, h10⟩
            · intro L v wx hd hn ⟨hB, s0, s1, h0, h1, h2, h3, h4, h5, h6, h7, h8, h9, h10⟩ K hK
              have e5 := h5 (zdq hd 5 rfl)
              have e2 := h2 (zdq hd 2 rfl)
              rw [if_pos (by simp [Region.wanted, yielded, e2])]
              go_wp2_with fail
              exact hK _ (.pointer (some ⟨g, J * 65, none⟩)) _ (by simp only [Act.put, pA, pB, pC, e5, e2]) ⟨hB, s0, s1, h0, h1, h2, h3, h4, h5, (fun _ => rfl), h7, h8, h9, h10⟩
            · intro L v wx hd hn ⟨hB, s0, s1, h0, h1, h2, h3, h4, h5, h6, h7, h8, h9, h10⟩ K hK
              have e6 := h6 (zdq hd 6 rfl)
              have e2 := h2 (zdq hd 2 rfl)
              rw [if_pos (by simp [Region.wanted, yielded, e2])]
              have hr := (s1.1.range (i := J) (c := facC (ofN p x.1) x.2) (by rw [facRows_snoc, HJ.out]; simp [facRows_len]))
              have hr2 : wx.rangeAt g (J * 65) (bl 64 (ofN p x.1)) := fun j u hu => hr j u (by unfold facC; rw [List.getElem?_append_left (List.getElem?_eq_some_iff.1 hu).1]; exact hu)
              refine wp_load_mid 23 _ rfl _ (J * 65) e6 _ _ hr2 Try.underlying23 rfl (by rw [zl]; exact Try.size23) ?_
              exact hK _ _ _ rfl ⟨hB, s0, s1, h0, h1, h2, h3, h4, h5, h6, (fun _ => rfl), h8, h9, h10⟩
            · intro L v wx hd hn ⟨hB, s0, s1, h0, h1, h2, h3, h4, h5, h6, h7, h8, h9, h10⟩ K hK
              have e2 := h2 (zdq hd 2 rfl)
              rw [if_pos (by simp [Region.wanted, yielded, e2])]
              refine zlc s0 Try.underlying23 Try.size23 ?_
              exact hK _ _ _ rfl ⟨hB, s0, s1, h0, h1, h2, h3, h4, h5, h6, h7, (fun _ => rfl), h9, h10⟩
            · intro L v wx hd hn ⟨hB, s0, s1, h0, h1, h2, h3, h4, h5, h6, h7, h8, h9, h10⟩ K hK
              have e7 := h7 (zdq hd 7 rfl)
              have e8 := h8 (zdq hd 8 rfl)
              have e2 := h2 (zdq hd 2 rfl)
              rw [if_pos (by simp [Region.wanted, yielded, e2])]
              go_wp2_with fail
              exact hK _ (.bool false) _ (by simp only [Act.put, pA, pB, pC, e7, e8, e2]) ⟨hB, s0, s1, h0, h1, h2, h3, h4, h5, h6, h7, h8, (fun _ => rfl), h10⟩
            · intro L v wx hd hn ⟨hB, s0, s1, h0, h1, h2, h3, h4, h5, h6, h7, h8, h9, h10⟩ K hK
              have e2 := h2 (zdq hd 2 rfl)
              have e9 := h9 (zdq hd 9 rfl)
              rw [if_pos (by simp [Region.wanted])]
              go_wp2_with fail
              exact hK _ (.bool false) _ (by simp only [Act.put, pA, pB, pC, e2, e9]) ⟨hB, s0, s1, h0, h1, h2, h3, h4, h5, h6, h7, h8, h9, (fun _ => rfl)⟩
          · intro L v wx hL ⟨hB, s0, s1, h0, h1, h2, h3, h4, h5, h6, h7, h8, h9, h10⟩
            have e10 := h10 (hL 10 (by decide))
            simp only [Exit.then, e10]
            clear hL hb B0 B1 B2 B3 h0 h1 h2 h3 h4 h5 h6 h7 h8 h9 h10 hgd heq
            have hb := hB
            have B3 := s0
            have B1 := s1
            clear hB s0 s1 e10
            have lu_1 := B1.lt
            have lu_3 := B3.lt
            go_wp2_with (first | (refine zla (.tmp 13) B3 Try.underlying23 Try.size23 ?_) | (refine zbo rfl 100 _ rfl (facC (monP p X) 1).toArray (by rw [Array.toList_map]; exact built_fac2 _ 1) ?_) | (refine wpList_build1 rfl 41 _ (facC (monP p X) 1) 65 rfl 100 Try.underlying41 Try.elemFac (by decide) (by decide) (facC_len _ _) rfl ?_; intro wa hps hba; have eB1 := B1.zw hba; have eB3 := B3.zw hba; have ehb := hb.trans (hba.mono hb.size)) | (at_builtin; refine wpList_append_sl _ rfl _ _ 41 rfl base 100 (.agg (facC (fun _ => 0) 0).toArray) 65 72 Try.underlying41 Try.infoFac (by simp [Value.cells, facC_len]) (by decide) (.slice (some ⟨g, 0, none⟩) (J + 1) cap0) _ rfl eB1.1 wx.heap.size (facC (monP p X) 1) rfl (facC_len _ _) hps.range (facC_one _ _) (by rw [facRows_len]; unfold maxLen; omega) (by rw [facRows_len]; omega) ?_; intro vp wp hSp hg1; have fhb := ehb.grown hg1 ehb.size (fun k e => Nat.le_trans ybw (eB1.1.own k e))))
            go_ret
            exact ⟨_, rfl, by rw [HR.out.1, facRows_app, HRW.out]; exact hSp.base ybw, fhb⟩
    · have hnx : ¬ 0 < deg X := h0X
      have HR2 := Lib.hid (show run p 64 1 f = LL by rw [HR.out.1, finL_z (by omega), List.append_nil])
      clear HR
      go_wp2_with fail
      go_ret
      exact ⟨_, rfl, by rw [HR2.out]; exact B1.1.base ybw, hb⟩
end Go.Proofs.Ytoncepgcfifgbaa
namespace Go.Proofs.Ytoncepgcfifgbaa
open Go Go.RowKit
set_option linter.unusedVariables false
set_option linter.unusedSimpArgs false
attribute [local irreducible] deg facRows run
/-- the degrees of the factors, together -/
def wtS (p : Nat) : List (Nat × Nat) → Nat
 | [] => 0
 | x :: l => (deg (ofN p x.1)).toNat * x.2 + wtS p l
theorem wtS_app (p : Nat) : ∀ (l m : List (Nat × Nat)), wtS p (l ++ m) = wtS p l + wtS p m
 | [], m => by show wtS p m = 0 + wtS p m; omega
 | x :: l, m => by
  show (deg (ofN p x.1)).toNat * x.2 + wtS p (l ++ m) = (deg (ofN p x.1)).toNat * x.2 + wtS p l + wtS p m
  rw [wtS_app p l m]; omega
theorem wtS_len {p : Nat} : ∀ {l : List (Nat × Nat)}, (∀ x ∈ l, 1 ≤ x.2 ∧ 1 ≤ deg (ofN p x.1)) → l.length ≤ wtS p l
 | [], _ => Nat.zero_le _
 | x :: l, h => by
  have h1 := wtS_len (l := l) (fun y hy => h y (by simp [hy]))
  obtain ⟨h2, h3⟩ := h x (by simp)
  have h4 : 1 * 1 ≤ (deg (ofN p x.1)).toNat * x.2 := Nat.mul_le_mul (by omega) h2
  show l.length + 1 ≤ (deg (ofN p x.1)).toNat * x.2 + wtS p l
  omega
theorem dvo_deg {p d : Nat} {m : Nat → Nat} (hp : p = 2 ∨ p = 3 ∨ p = 5 ∨ p = 7) (hmp : ∀ k, k < 64 → m k < p) (hm : mon m d) : ∀ (f : Nat) (a : Nat → Nat), (∀ k, k < 64 → a k < p) → 0 ≤ deg a → deg (dvo p m f a).2 + (((dvo p m f a).1 * d : Nat) : Int) = deg a
 | 0, a, _, _ => by show deg a + ((0 * d : Nat) : Int) = deg a; rw [Nat.zero_mul]; omega
 | f + 1, a, ha, h0 => by
  by_cases hz : deg (resP p a m) < 0
  · obtain ⟨q0, qd⟩ := quo_nz hp ha hmp hm h0 hz
    have := dvo_deg hp hmp hm f (quoP p a m) (fun k _ => quoP_lt (by omega) k) q0
    rw [dvo, if_pos hz]
    show deg (dvo p m f (quoP p a m)).2 + ((((dvo p m f (quoP p a m)).1 + 1) * d : Nat) : Int) = deg a
    rw [Nat.succ_mul]
    omega
  · rw [dvo, if_neg hz]; show deg a + ((0 * d : Nat) : Int) = deg a; rw [Nat.zero_mul]; omega
theorem foR_wt {p n : Nat} (hp : p = 2 ∨ p = 3 ∨ p = 5 ∨ p = 7) (hn2 : n < 64) : ∀ (ms : List Nat) (a : Nat → Nat), okL p n ms → (∀ k, k < 64 → a k < p) → 0 ≤ deg a →
 (∀ x ∈ (foR p ms a).1, 1 ≤ x.2 ∧ deg (ofN p x.1) = (n : Int)) ∧ deg (foR p ms a).2 + (wtS p (foR p ms a).1 : Int) = deg a
 | [], a, _, _, _ => ⟨fun x h => (by cases h), by show deg a + ((0 : Nat) : Int) = deg a; omega⟩
 | N :: ms, a, hms, ha, h0 => by
  have hm := mon_ofN (by omega) hn2 (hms N (by simp))
  have hlt : ∀ k, k < 64 → ofN p N k < p := fun k _ => ofN_lt (by omega) N k
  obtain ⟨d1, d2, _, _⟩ := dvo_ok hp hlt hm 64 a ha h0
  have dd := dvo_deg hp hlt hm 64 a ha h0
  obtain ⟨i1, i2⟩ := foR_wt hp hn2 ms (dvo p (ofN p N) 64 a).2 (fun M hM => hms M (by simp [hM])) d1 d2
  rw [foR]
  obtain ⟨K, hK⟩ : ∃ K, K = (dvo p (ofN p N) 64 a).1 := ⟨_, rfl⟩
  rw [← hK] at dd ⊢
  by_cases h : 0 < K
  · rw [if_pos h]
    refine ⟨fun x hx => ?_, ?_⟩
    · rcases List.mem_append.1 hx with h1 | h1
      · rw [List.mem_singleton] at h1; subst h1; exact ⟨h, hm.1⟩
      · exact i1 x h1
    · show deg (foR p ms (dvo p (ofN p N) 64 a).2).2 + ((wtS p ([(N, K)] ++ (foR p ms (dvo p (ofN p N) 64 a).2).1) : Nat) : Int) = deg a
      rw [wtS_app]
      have e : wtS p [(N, K)] = K * n := by show (deg (ofN p N)).toNat * K + 0 = K * n; rw [hm.1, Int.toNat_natCast, Nat.mul_comm]; rfl
      rw [e]
      omega
  · rw [if_neg h]
    have e0 : K = 0 := by omega
    rw [e0, Nat.zero_mul] at dd
    refine ⟨fun x hx => i1 x (by simpa using hx), ?_⟩
    show deg (foR p ms (dvo p (ofN p N) 64 a).2).2 + ((wtS p ([] ++ (foR p ms (dvo p (ofN p N) 64 a).2).1) : Nat) : Int) = deg a
    rw [List.nil_append]
    omega
theorem run_wt {p : Nat} (hp : p = 2 ∨ p = 3 ∨ p = 5 ∨ p = 7) : ∀ (f n : Nat) (a : Nat → Nat), 1 ≤ n → (∀ k, k < 64 → a k < p) → 0 ≤ deg a → lowf p n a → (∀ x ∈ run p f n a, 1 ≤ x.2 ∧ 1 ≤ deg (ofN p x.1)) ∧ (wtS p (run p f n a) : Int) ≤ deg a
 | 0, n, a, _, _, h0, _ => ⟨fun x h => (by unfold run at h; cases h), (by unfold run; exact h0)⟩
 | f + 1, n, a, hn, ha, h0, hl => by
  by_cases hz : deg a ≤ 0
  · rw [run_z hz]; exact ⟨fun x h => (by cases h), h0⟩
  · have hlow := low_deg hp ha (by omega) hl
    have hn2 : n < 64 := by have := zdb a; omega
    obtain ⟨s1, s2, s3, s4, s5⟩ := foR_spec hp hn hn2 (monL p n) a (fun _ h => h) ha h0 hl
    obtain ⟨f1, f2⟩ := foR_wt hp hn2 (monL p n) a (fun _ h => h) ha h0
    obtain ⟨i1, i2⟩ := run_wt hp f (n + 1) _ (by omega) s1 s2 (lowf_next (by omega) hl s4 s5)
    rw [run_s hz]
    refine ⟨fun x hx => ?_, ?_⟩
    · rcases List.mem_append.1 hx with h | h
      · obtain ⟨g1, g2⟩ := f1 x h; exact ⟨g1, by omega⟩
      · exact i1 x h
    · rw [wtS_app]; push_cast; omega
theorem run_ok {p : Nat} {f : Nat → Nat} (hp : p = 2 ∨ p = 3 ∨ p = 5 ∨ p = 7) (lf : ∀ k, k < 64 → f k < p) (h0 : 0 ≤ deg f) (h12 : deg f ≤ 12) : (run p 64 1 f).length ≤ 12 ∧ wtS p (run p 64 1 f) ≤ 12 ∧ ∀ x ∈ run p 64 1 f, 1 ≤ x.2 ∧ 1 ≤ deg (ofN p x.1) := by
 obtain ⟨h1, h2⟩ := run_wt hp 64 1 f (Nat.le_refl _) lf h0 (lowf_one f)
 have := wtS_len h1
 exact ⟨by omega, by omega, h1⟩
end Go.Proofs.Ytoncepgcfifgbaa
namespace Go.Proofs.Ytoncepgcfifgbaa
open Go Go.RowKit
set_option linter.unusedVariables false
set_option linter.unusedSimpArgs false
attribute [local irreducible] deg facRows run
/-- the units of a factor x -/
def euU (p : Nat) (x : Nat × Nat) : Nat := (p ^ (deg (ofN p x.1)).toNat - 1) * p ^ ((deg (ofN p x.1)).toNat * (x.2 - 1))
def euG (p : Nat) : Nat → List (Nat × Nat) → Nat
 | t, [] => t
 | t, x :: l => euG p (t * euU p x) l
theorem euG_end {p t : Nat} {R : List (Nat × Nat)} {j : Nat} (h : R.length ≤ j) : euG p t (R.drop j) = t := by rw [List.drop_eq_nil_of_le h]; rfl
theorem euG_next {p t : Nat} {R : List (Nat × Nat)} {j : Nat} {x : Nat × Nat} (h : R[j]? = some x) : euG p t (R.drop j) = euG p (t * euU p x) (R.drop (j + 1)) := by
 obtain ⟨hj, e⟩ := List.getElem?_eq_some_iff.1 h
 rw [List.drop_eq_getElem_cons hj, e]; rfl
theorem wtS_next {p : Nat} {R : List (Nat × Nat)} {j : Nat} {x : Nat × Nat} (h : R[j]? = some x) : wtS p (R.drop j) = (deg (ofN p x.1)).toNat * x.2 + wtS p (R.drop (j + 1)) := by
 obtain ⟨hj, e⟩ := List.getElem?_eq_some_iff.1 h
 rw [List.drop_eq_getElem_cons hj, e]; rfl
/-- the numbers of one round -/
theorem eu_round {p d k0 t s : Nat} (hp2 : 2 ≤ p) (hp7 : p ≤ 7) (ht : t ≤ p ^ s) (h : s + d * (k0 + 1) ≤ 12) :
 t * ((p ^ d - 1) * p ^ (d * k0)) ≤ p ^ (s + d * (k0 + 1)) ∧ t * (p ^ d - 1) ≤ 13841287201 ∧ (p ^ d - 1) * p ^ (d * k0) ≤ 13841287201 ∧ t * ((p ^ d - 1) * p ^ (d * k0)) ≤ 13841287201 ∧ t ≤ 13841287201 ∧ 1 ≤ p ^ d ∧ p ^ d ≤ 13841287201 ∧ p ^ (d * k0) ≤ 13841287201 ∧ d ≤ 12 ∧ d * k0 ≤ 12 ∧ ∀ k, k ≤ k0 → (p ^ d) ^ k ≤ 13841287201 := by
 have p0 : 0 < p := by omega
 have hdk : d * (k0 + 1) = d * k0 + d := Nat.mul_succ d k0
 have mono : ∀ {a b : Nat}, a ≤ b → p ^ a ≤ p ^ b := fun hab => Nat.pow_le_pow_right p0 hab
 have top : ∀ {a : Nat}, a ≤ 12 → p ^ a ≤ 13841287201 := fun ha => mon_bound hp7 ha
 have e1 : (p ^ d - 1) * p ^ (d * k0) ≤ p ^ (d * (k0 + 1)) := by
  rw [hdk, Nat.add_comm, Nat.pow_add]
  exact Nat.mul_le_mul_right _ (Nat.sub_le _ _)
 have e2 : t * ((p ^ d - 1) * p ^ (d * k0)) ≤ p ^ (s + d * (k0 + 1)) := by
  rw [Nat.pow_add]; exact Nat.mul_le_mul ht e1
 have e3 : t * (p ^ d - 1) ≤ p ^ (s + d) := by
  rw [Nat.pow_add]; exact Nat.mul_le_mul ht (Nat.sub_le _ _)
 refine ⟨e2, Nat.le_trans e3 (top (by omega)), Nat.le_trans e1 (top (by omega)), Nat.le_trans e2 (top h), Nat.le_trans ht (top (by omega)), Nat.pos_of_ne_zero (by have := Nat.pow_pos (n := d) p0; omega), top (by omega), top (by omega), by omega, by omega, fun k hk => ?_⟩
 rw [← Nat.pow_mul]
 exact top (by have := Nat.mul_le_mul_left d hk; omega)
set_option maxRecDepth 100000 in
set_option maxHeartbeats 3200000 in
theorem l02PowerG (q n : Nat) (w : World) (hn : n ≤ 20) (hq1 : 1 ≤ q) (hq2 : q ≤ 13841287201) (hB : ∀ k, k ≤ n → q ^ k ≤ 13841287201) :
 Calls Try.prog 161 #[.int .i64 (q : Int), .int .i64 (n : Int)] w fun e w' => e = .returned (.int .i64 ((q ^ n : Nat) : Int)) ∧ w = w' := by
 have HB := Lib.hid hB
 clear hB
 go_enter Try.func161, Try.ntmps161
 go_wp2_with fail
 go_loopw [5, 1] (fun x i wr => ∃ k j X : Nat, k + j = n ∧ X = q ^ k ∧ x = .int .i64 (X : Int) ∧ i = .int .i64 (j : Int) ∧ wr = w) (fun _ i _ => (intOf i).toNat)
 case atStart => exact ⟨0, n, 1, by omega, rfl, rfl, rfl, rfl⟩
 case round =>
  obtain ⟨k, j, X, hk, hX, rfl, rfl, rfl⟩ := hrel
  have x1 := HB.out k (by omega)
  rw [← hX] at x1
  have HK := Lib.hid hk
  have hj20 : j ≤ 20 := by omega
  clear hk
  by_cases hlt : 0 < j
  · have y1 := HB.out (k + 1) (by have := HK.out; omega)
    rw [Nat.pow_succ, ← hX] at y1
    have HX := Lib.hid hX; clear hX
    have z1 : ((X * q : Nat) : Int) ≤ 13841287201 := by omega
    have z2 : 0 ≤ ((X * q : Nat) : Int) := by omega
    rw [Int.natCast_mul] at z1 z2
    clear y1
    go_wp2_with fail
    go_roundw
    case rel => exact ⟨k + 1, j - 1, X * q, by have := HK.out; omega, by rw [Nat.pow_succ, ← HX.out], by go_num, by rw [show ((j - 1 : Nat) : Int) = (j : Int) - 1 by omega], trivial⟩
    case measure => simp [intOf]; omega
  · have e : j = 0 := by omega
    subst e
    have HX := Lib.hid hX; clear hX
    go_wp2_with fail
    go_ret
    exact ⟨ret_int (congrArg (fun x : Nat => (x : Int)) (by rw [HX.out, show k = n by have := HK.out; omega])), rfl⟩
set_option maxRecDepth 100000 in
set_option maxHeartbeats 3200000 in
theorem l02Euler_any (n : Nat) (f : Nat → Nat) (w : World) (hpr : n = 2 ∨ n = 3 ∨ n = 5 ∨ n = 7) (lf : ∀ k, k < 64 → f k < n) (hr1 : 0 ≤ deg f) (hr2 : deg f ≤ 12) :
 Calls Try.prog 113 #[.int .i64 (n : Int), .agg (zb 64 f)] w fun e w' => e = .returned (.int .i64 ((euG n 1 (run n 64 1 f) : Nat) : Int)) ∧ Below w.heap.size w w' := by
 have n2 : 2 ≤ n := by omega
 have n7 : n ≤ 7 := by omega
 obtain ⟨R, hR⟩ : ∃ R, R = run n 64 1 f := ⟨_, rfl⟩
 have HFA := Lib.hid (show ∀ W, Calls Try.prog 110 #[.int .i64 (n : Int), .agg (zb 64 f)] W fun e w' => ∃ v, e = .returned v ∧ SlL w' W.heap.size 100 65 v (facRows n R) ∧ Below W.heap.size W w' by
  intro W
  have := l02Split_any n f W hpr lf (by omega) (by omega)
  unfold FaF at this
  rw [← hR] at this
  exact this)
 have hRk := run_ok hpr lf hr1 hr2
 rw [← hR] at hRk ⊢
 obtain ⟨hR12, hWT, hEL⟩ := hRk
 have HEL := Lib.hid hEL
 clear hR hEL
 go_enter Try.func113, Try.ntmps113
 go_upto_region 1 with (fail)
 obtain ⟨W1, hwo⟩ : ∃ v : World, v = (w.alloc (.cells (zb 64 (f)) 23)) := ⟨_, rfl⟩
 have B0 : Blk W1 (w.heap.size) 64 23 (f) := by subst hwo; have := (Blk.new w 64 23 (f)); simpa using this
 have hb : Below w.heap.size w W1 := by subst hwo; exact ((Below.refl _ _).alloc (Nat.le_refl _) _)
 rw [← hwo]
 clear hwo
 go_upto_region 2 with (first | (refine zla (.tmp 3) B0 Try.underlying23 Try.size23 ?_) | (go_at_call 110; refine (HFA.out _).mono ?_; rintro e W2 ⟨lst, rfl, hS, hW2⟩; replace B0 := B0.zw hW2; have hbw := hb.size; replace hb := (hb).trans (hW2.mono (hb).size); replace hS := hS.base hbw; obtain ⟨a0, cap, rfl⟩ : ∃ a cap, lst = .slice a R.length cap := (by rcases hS.shape with ⟨h1, h2⟩ | ⟨g, cap, h1⟩; (· have h3 := congrArg List.length h2; rw [facRows_len] at h3; exact ⟨_, _, by rw [h1, show R.length = 0 from h3]⟩); (· exact ⟨_, _, by rw [h1, facRows_len]⟩))))
 clear HFA hW2 hbw
 go_wp2_with fail
 go_loopw [6, 7] (fun s i wr => ∃ (j t s0 : Nat), s = .int .i64 (t : Int) ∧ i = .int .i64 (j : Int) ∧ j ≤ R.length ∧ s0 + wtS n (R.drop j) ≤ 12 ∧ Hid (t ≤ n ^ s0) ∧ Hid (euG n 1 R = euG n t (R.drop j)) ∧ Below w.heap.size w wr ∧ SlL wr w.heap.size 100 65 (.slice a0 R.length cap) (facRows n R)) (fun _ i _ => R.length - (intOf i).toNat)
 case atStart => exact ⟨0, 1, 0, rfl, rfl, Nat.zero_le _, by show 0 + wtS n R ≤ 12; omega, Lib.hid (by rw [Nat.pow_zero]; exact Nat.le_refl _), Lib.hid rfl, hb, hS⟩
 case round =>
  clear hb hS B0
  obtain ⟨j, t, s0, rfl, rfl, hjR, hsw, ht, hE, hb, hS⟩ := hrel
  by_cases hj : j < R.length
  · obtain ⟨x, hx⟩ : ∃ x, R[j]? = some x := ⟨_, List.getElem?_eq_getElem hj⟩
    obtain ⟨hk1, hd1⟩ := HEL.out x (List.mem_of_getElem? hx)
    have hwn := wtS_next (p := n) hx
    have hen := euG_next (p := n) (t := t) hx
    have hrow : (facRows n R)[j]? = some (facC (ofN n x.1) x.2) := by unfold facRows; rw [List.getElem?_map, hx]; rfl
    unfold euU at hen
    obtain ⟨N, K⟩ := x
    dsimp only at hk1 hd1 hwn hen hrow
    obtain ⟨k0, rfl⟩ : ∃ k, K = k + 1 := ⟨K - 1, by omega⟩
    obtain ⟨d, hd⟩ : ∃ d, d = (deg (ofN n N)).toNat := ⟨_, rfl⟩
    have hdd : deg (ofN n N) = (d : Int) := by omega
    rw [← hd] at hwn hen
    rw [Nat.add_sub_cancel] at hen
    obtain ⟨r1, r2, r3, r4, r5, r6, r7, r8, r9, r10, r11⟩ := eu_round (d := d) (k0 := k0) n2 n7 ht.out (s := s0) (by omega)
    obtain ⟨q, hq⟩ : ∃ q, q = n ^ d := ⟨_, rfl⟩
    obtain ⟨P, hP⟩ : ∃ P, P = n ^ (d * k0) := ⟨_, rfl⟩
    rw [← hq] at r1 r2 r3 r4 r6 r7 r11 hen
    rw [← hP] at r1 r3 r4 r8 hen
    have hk12 : k0 ≤ 12 := by
     have : 1 * k0 ≤ d * k0 := Nat.mul_le_mul_right k0 (by omega)
     omega
    have c1 : ((q - 1 : Nat) : Int) = (q : Int) - 1 := by omega
    have z1 : (t : Int) * ((q : Int) - 1) ≤ 13841287201 := by rw [← c1, ← Int.natCast_mul]; omega
    have z2 : 0 ≤ (t : Int) * ((q : Int) - 1) := by rw [← c1, ← Int.natCast_mul]; omega
    have z3 : ((q : Int) - 1) * (P : Int) ≤ 13841287201 := by rw [← c1, ← Int.natCast_mul]; omega
    have z4 : 0 ≤ ((q : Int) - 1) * (P : Int) := by rw [← c1, ← Int.natCast_mul]; omega
    have z5 : (t : Int) * (((q : Int) - 1) * (P : Int)) ≤ 13841287201 := by rw [← c1, ← Int.natCast_mul, ← Int.natCast_mul]; omega
    have z6 : 0 ≤ (t : Int) * (((q : Int) - 1) * (P : Int)) := by rw [← c1, ← Int.natCast_mul, ← Int.natCast_mul]; omega
    have z7 : (d : Int) * (k0 : Int) ≤ 12 := by rw [← Int.natCast_mul]; omega
    have z8 : 0 ≤ (d : Int) * (k0 : Int) := by rw [← Int.natCast_mul]; omega
    have z9 : (t : Int) * ((q : Int) - 1) * (P : Int) ≤ 13841287201 := by rw [Int.mul_assoc]; exact z5
    have z10 : 0 ≤ (t : Int) * ((q : Int) - 1) * (P : Int) := by rw [Int.mul_assoc]; exact z6
    have HT := Lib.hid (show (t : Int) * (((q : Int) - 1) * (P : Int)) = ((t * ((q - 1) * P) : Nat) : Int) by rw [← c1, ← Int.natCast_mul, ← Int.natCast_mul])
    have HR1 := Lib.hid r1
    have HE2 := Lib.hid (show euG n 1 R = euG n (t * ((q - 1) * P)) (R.drop (j + 1)) by rw [hE.out, hen])
    have hsw2 : s0 + d * (k0 + 1) + wtS n (R.drop (j + 1)) ≤ 12 := by omega
    obtain ⟨S2, hS2⟩ : ∃ S, S = s0 + d * (k0 + 1) := ⟨_, rfl⟩
    rw [← hS2] at hsw2 HR1
    have HSW := Lib.hid hsw2
    obtain ⟨g, rfl⟩ := hS.some (by rw [facRows_len]; omega)
    have hjl : (j : Int) < (R.length : Int) := by omega
    have q1 : 1 ≤ (q : Int) := by omega
    have q2 : (q : Int) ≤ 13841287201 := by omega
    have P2 : (P : Int) ≤ 13841287201 := by omega
    have t2 : (t : Int) ≤ 13841287201 := by omega
    have HN1 := Lib.hid (show ∀ W, Calls Try.prog 161 #[.int .i64 (n : Int), .int .i64 (d : Int)] W fun e w' => e = .returned (.int .i64 (q : Int)) ∧ W = w' by
     intro W; rw [hq]; exact l02Power_any n d W n2 n7 (by omega))
    have HN2 := Lib.hid (show ∀ W, Calls Try.prog 161 #[.int .i64 (q : Int), .int .i64 (k0 : Int)] W fun e w' => e = .returned (.int .i64 (P : Int)) ∧ W = w' by
     intro W; have := l02PowerG q k0 W (by omega) r6 r7 r11; rwa [hq, ← Nat.pow_mul, ← hP, ← hq] at this)
    have HDG := Lib.hid (show ∀ W, Calls Try.prog 88 #[.agg (zb 64 (ofN n N))] W fun e w' => e = .returned (.int .i64 (d : Int)) ∧ Below W.heap.size W w' by
     intro W; rw [← hdd]; exact l01Deg_any _ W)
    clear hd hdd hwn hen hx r1 r2 r3 r4 r5 r6 r7 r8 r9 r10 r11 c1 hq hP ht hE hsw hsw2 hS2 hk1 hd1
    have hr := hS.range hrow
    have B1 := hS.top
    have B2 : SzG wr.heap.size wr := Nat.le_refl _
    clear hS
    have hr2 : wr.rangeAt g (j * 65) (bl 64 (ofN n N)) := fun j u hu => hr j u (by unfold facC; rw [List.getElem?_append_left (List.getElem?_eq_some_iff.1 hu).1]; exact hu)
    clear hr
    go_upto_region 5 with (fail)
    go_upto_region 6 with (first | (refine wpList_load_mid rfl 23 (.tmp 22) rfl g (j * 65) rfl (bl 64 (ofN n N)) _ hr2 Try.underlying23 rfl (by rw [zl]; exact Try.size23) ?_) | (go_at_call 88; refine (HDG.out _).mono ?_; rintro e W3 ⟨rfl, hW3⟩; replace B1 := B1.zw hW3; replace B2 := B2.zw hW3; replace hb := (hb).trans (hW3.mono (hb).size)) | (go_at_call 161; refine (HN1.out _).mono ?_; rintro e wS ⟨rfl, rfl⟩))
    clear hr2 HDG
    have cc := B1.1.range hrow 64 (.int .i64 ((k0 + 1 : Nat) : Int)) (by simpa using facC_at (ofN n N) (k0 + 1))
    go_wp2_with (first | (go_at_call 161; refine (HN2.out _).mono ?_; rintro e wS ⟨rfl, rfl⟩))
    go_roundw
    case rel => exact ⟨j + 1, t * ((q - 1) * P), S2, by rw [Int.mul_assoc, HT.out], by go_num, by omega, HSW.out, HR1, HE2, hb, B1.1⟩
    case measure => simp [intOf] <;> omega
  · have hjl : ¬ (j : Int) < (R.length : Int) := by omega
    have HV := Lib.hid (show euG n 1 R = t by rw [hE.out, euG_end (by omega)])
    go_wp2_with fail
    go_ret
    exact ⟨by rw [HV.out]; rfl, hb⟩
set_option maxRecDepth 100000 in
set_option maxHeartbeats 3200000 in
theorem eulerOf_any (n : Nat) (f : Nat → Nat) (w : World) (hpr : n = 2 ∨ n = 3 ∨ n = 5 ∨ n = 7) (lf : ∀ k, k < 64 → f k < n) (hr1 : 0 ≤ deg f) (hr2 : deg f ≤ 12) :
 Calls Try.prog 114 #[.int .i64 (n : Int), .agg (zb 64 f)] w fun e w' => e = .returned (.int .i64 ((euG n 1 (run n 64 1 f) : Nat) : Int)) ∧ Below w.heap.size w w' := by
 have n2 : 2 ≤ n := by omega
 have n7 : n ≤ 7 := by omega
 obtain ⟨R, hR⟩ : ∃ R, R = run n 64 1 f := ⟨_, rfl⟩
 have HFA := Lib.hid (show ∀ W, Calls Try.prog 111 #[.int .i64 (n : Int), .agg (zb 64 f)] W fun e w' => ∃ v, e = .returned v ∧ SlL w' W.heap.size 100 65 v (facRows n R) ∧ Below W.heap.size W w' by
  intro W
  have := factorsOf_any n f W hpr lf (by omega) (by omega)
  unfold FaF at this
  rw [← hR] at this
  exact this)
 have hRk := run_ok hpr lf hr1 hr2
 rw [← hR] at hRk ⊢
 obtain ⟨hR12, hWT, hEL⟩ := hRk
 have HEL := Lib.hid hEL
 clear hR hEL
 go_enter Try.func114, Try.ntmps114
 go_upto_region 1 with (fail)
 obtain ⟨W1, hwo⟩ : ∃ v : World, v = (w.alloc (.cells (zb 64 (f)) 23)) := ⟨_, rfl⟩
 have B0 : Blk W1 (w.heap.size) 64 23 (f) := by subst hwo; have := (Blk.new w 64 23 (f)); simpa using this
 have hb : Below w.heap.size w W1 := by subst hwo; exact ((Below.refl _ _).alloc (Nat.le_refl _) _)
 rw [← hwo]
 clear hwo
 go_upto_region 2 with (fail)
 go_upto_region 3 with (first | (refine zla (.tmp 3) B0 Try.underlying23 Try.size23 ?_) | (go_at_call 111; refine (HFA.out _).mono ?_; rintro e W2 ⟨lst, rfl, hS, hW2⟩; replace B0 := B0.zw hW2; have hbw := hb.size; replace hb := (hb).trans (hW2.mono (hb).size); replace hS := hS.base hbw; obtain ⟨a0, cap, rfl⟩ : ∃ a cap, lst = .slice a R.length cap := (by rcases hS.shape with ⟨h1, h2⟩ | ⟨g, cap, h1⟩; (· have h3 := congrArg List.length h2; rw [facRows_len] at h3; exact ⟨_, _, by rw [h1, show R.length = 0 from h3]⟩); (· exact ⟨_, _, by rw [h1, facRows_len]⟩))))
 clear HFA hW2 hbw
 go_wp2_with fail
 go_loopw [5, 13] (fun s i wr => ∃ (j t s0 : Nat), s = .int .i64 (t : Int) ∧ i = .int .i64 (j : Int) ∧ j ≤ R.length ∧ s0 + wtS n (R.drop j) ≤ 12 ∧ Hid (t ≤ n ^ s0) ∧ Hid (euG n 1 R = euG n t (R.drop j)) ∧ Below w.heap.size w wr ∧ SlL wr w.heap.size 100 65 (.slice a0 R.length cap) (facRows n R)) (fun _ i _ => R.length - (intOf i).toNat)
 case atStart => exact ⟨0, 1, 0, rfl, rfl, Nat.zero_le _, by show 0 + wtS n R ≤ 12; omega, Lib.hid (by rw [Nat.pow_zero]; exact Nat.le_refl _), Lib.hid rfl, hb, hS⟩
 case round =>
  clear hb hS B0
  obtain ⟨j, t, s0, rfl, rfl, hjR, hsw, ht, hE, hb, hS⟩ := hrel
  by_cases hj : j < R.length
  · obtain ⟨x, hx⟩ : ∃ x, R[j]? = some x := ⟨_, List.getElem?_eq_getElem hj⟩
    obtain ⟨hk1, hd1⟩ := HEL.out x (List.mem_of_getElem? hx)
    have hwn := wtS_next (p := n) hx
    have hen := euG_next (p := n) (t := t) hx
    have hrow : (facRows n R)[j]? = some (facC (ofN n x.1) x.2) := by unfold facRows; rw [List.getElem?_map, hx]; rfl
    unfold euU at hen
    obtain ⟨N, K⟩ := x
    dsimp only at hk1 hd1 hwn hen hrow
    obtain ⟨k0, rfl⟩ : ∃ k, K = k + 1 := ⟨K - 1, by omega⟩
    obtain ⟨d, hd⟩ : ∃ d, d = (deg (ofN n N)).toNat := ⟨_, rfl⟩
    have hdd : deg (ofN n N) = (d : Int) := by omega
    rw [← hd] at hwn hen
    rw [Nat.add_sub_cancel] at hen
    obtain ⟨r1, r2, r3, r4, r5, r6, r7, r8, r9, r10, r11⟩ := eu_round (d := d) (k0 := k0) n2 n7 ht.out (s := s0) (by omega)
    obtain ⟨q, hq⟩ : ∃ q, q = n ^ d := ⟨_, rfl⟩
    obtain ⟨P, hP⟩ : ∃ P, P = n ^ (d * k0) := ⟨_, rfl⟩
    rw [← hq] at r1 r2 r3 r4 r6 r7 r11 hen
    rw [← hP] at r1 r3 r4 r8 hen
    have hk12 : k0 ≤ 12 := by
     have : 1 * k0 ≤ d * k0 := Nat.mul_le_mul_right k0 (by omega)
     omega
    have c1 : ((q - 1 : Nat) : Int) = (q : Int) - 1 := by omega
    have z1 : (t : Int) * ((q : Int) - 1) ≤ 13841287201 := by rw [← c1, ← Int.natCast_mul]; omega
    have z2 : 0 ≤ (t : Int) * ((q : Int) - 1) := by rw [← c1, ← Int.natCast_mul]; omega
    have z3 : ((q : Int) - 1) * (P : Int) ≤ 13841287201 := by rw [← c1, ← Int.natCast_mul]; omega
    have z4 : 0 ≤ ((q : Int) - 1) * (P : Int) := by rw [← c1, ← Int.natCast_mul]; omega
    have z5 : (t : Int) * (((q : Int) - 1) * (P : Int)) ≤ 13841287201 := by rw [← c1, ← Int.natCast_mul, ← Int.natCast_mul]; omega
    have z6 : 0 ≤ (t : Int) * (((q : Int) - 1) * (P : Int)) := by rw [← c1, ← Int.natCast_mul, ← Int.natCast_mul]; omega
    have z7 : (d : Int) * (k0 : Int) ≤ 12 := by rw [← Int.natCast_mul]; omega
    have z8 : 0 ≤ (d : Int) * (k0 : Int) := by rw [← Int.natCast_mul]; omega
    have z9 : (t : Int) * ((q : Int) - 1) * (P : Int) ≤ 13841287201 := by rw [Int.mul_assoc]; exact z5
    have z10 : 0 ≤ (t : Int) * ((q : Int) - 1) * (P : Int) := by rw [Int.mul_assoc]; exact z6
    have HT := Lib.hid (show (t : Int) * (((q : Int) - 1) * (P : Int)) = ((t * ((q - 1) * P) : Nat) : Int) by rw [← c1, ← Int.natCast_mul, ← Int.natCast_mul])
    have HR1 := Lib.hid r1
    have HE2 := Lib.hid (show euG n 1 R = euG n (t * ((q - 1) * P)) (R.drop (j + 1)) by rw [hE.out, hen])
    have hsw2 : s0 + d * (k0 + 1) + wtS n (R.drop (j + 1)) ≤ 12 := by omega
    obtain ⟨S2, hS2⟩ : ∃ S, S = s0 + d * (k0 + 1) := ⟨_, rfl⟩
    rw [← hS2] at hsw2 HR1
    have HSW := Lib.hid hsw2
    obtain ⟨g, rfl⟩ := hS.some (by rw [facRows_len]; omega)
    have hjl : (j : Int) < (R.length : Int) := by omega
    have q1 : 1 ≤ (q : Int) := by omega
    have q2 : (q : Int) ≤ 13841287201 := by omega
    have P2 : (P : Int) ≤ 13841287201 := by omega
    have t2 : (t : Int) ≤ 13841287201 := by omega
    have HN1 := Lib.hid (show ∀ W, Calls Try.prog 108 #[.int .i64 (n : Int), .int .i64 (d : Int)] W fun e w' => e = .returned (.int .i64 (q : Int)) ∧ Below W.heap.size W w' by
     intro W; rw [hq]; exact (norm_any n d W n2 n7 (by omega)).mono (by rintro e w' ⟨rfl, rfl⟩; exact ⟨rfl, Below.refl _ _⟩))
    have HN2 := Lib.hid (show ∀ W, Calls Try.prog 108 #[.int .i64 (n : Int), .int .i64 ((d : Int) * (k0 : Int))] W fun e w' => e = .returned (.int .i64 (P : Int)) ∧ Below W.heap.size W w' by
     intro W; rw [hP, ← Int.natCast_mul]; exact (norm_any n (d * k0) W n2 n7 (by omega)).mono (by rintro e w' ⟨rfl, rfl⟩; exact ⟨rfl, Below.refl _ _⟩))
    have HDG := Lib.hid (show ∀ W, Calls Try.prog 92 #[.agg (zb 64 (ofN n N))] W fun e w' => e = .returned (.int .i64 (d : Int)) ∧ Below W.heap.size W w' by
     intro W; rw [← hdd]; exact degree_any _ W)
    clear hd hdd hwn hen hx r1 r2 r3 r4 r5 r6 r7 r8 r9 r10 r11 c1 hq hP ht hE hsw hsw2 hS2 hk1 hd1
    have hr := hS.range hrow
    have B1 := hS.top
    have B2 : SzG wr.heap.size wr := Nat.le_refl _
    clear hS
    go_upto_region 4 with (fail)
    have lt_B1 := B1.lt
    have lt_B2 := B2.lt
    go_upto_region 5 with (first | rw [← z64] | rw [← facC_zero] | (refine wpList_load_mid rfl 100 (.tmp 15) rfl g (j * 65) rfl (facC (ofN n N) (k0 + 1)) _ hr Try.underlying100 rfl (by rw [facC_len]; exact Try.size100) ?_) | (refine wpList_store_rowv rfl 100 (.tmp 7) (.tmp 16) rfl _ rfl (facC (ofN n N) (k0 + 1)).toArray rfl 100 _ ((Row.new wr 100 (facC (fun _ => 0) 0).toArray)) 65 Try.size100 (by simp [facC_len]) (by simp [facC_len]) (facC_all _ _) ?_; try simp only [Act.put]))
    have lt_B1 := B1.lt
    have lt_B2 := B2.lt
    have lhb := hb.size
    obtain ⟨W3, hwo, hzQ⟩ : ∃ v : World, v = ((wr.alloc (.cells (facC (fun _ => 0) 0).toArray 100)).setRow (wr.heap.size) (facC (ofN n N) (k0 + 1)).toArray) ∧ SlT v w.heap.size wr.heap.size 100 65 (.slice (some ⟨g, 0, none⟩) R.length cap) (facRows n R) ∧ SzG wr.heap.size v ∧ Row v (wr.heap.size) 100 (facC (ofN n N) (k0 + 1)).toArray ∧ Below w.heap.size w v := ⟨_, rfl, ((B1.alloc (.cells (facC (fun _ => 0) 0).toArray 100)).rowOther (by omega)), ((B2.alloc (.cells (facC (fun _ => 0) 0).toArray 100)).rowOther (by omega)), ((Row.new wr 100 (facC (fun _ => 0) 0).toArray).row (facC (ofN n N) (k0 + 1)).toArray), (zr (hb.alloc (by have := hb.size; simp; omega) (.cells (facC (fun _ => 0) 0).toArray 100)) (by omega) _)⟩
    rw [← hwo]
    clear hwo B1 B2 hb
    obtain ⟨B1, B2, B3, hb⟩ := hzQ
    obtain ⟨N1, hNN⟩ : ∃ n : Nat, n = wr.heap.size := ⟨_, rfl⟩
    rw [← hNN] at lt_B1 lt_B2 lhb B3 ⊢
    clear hNN
    have zN1_1 := lt_B1
    have zN1_2 := lt_B2
    have zN1 := lhb
    clear lt_B1 lt_B2 lhb
    try simp only [Act.put, pA, pB, pC]
    clear hr
    have hr2 : W3.rangeAt N1 0 (bl 64 (ofN n N)) := fun j u hu => B3.range j u (by unfold facC; rw [List.getElem?_append_left (List.getElem?_eq_some_iff.1 hu).1]; exact hu)
    go_upto_region 6 with (first | (refine wpList_load_mid rfl 23 (.tmp 17) rfl N1 0 rfl (bl 64 (ofN n N)) _ hr2 Try.underlying23 rfl (by rw [zl]; exact Try.size23) ?_) | (go_at_call 92; refine (HDG.out _).mono ?_; rintro e W4 ⟨rfl, hW4⟩; replace B1 := B1.zw hW4; replace B2 := B2.zw hW4; replace B3 := B3.zw hW4; replace hb := (hb).trans (hW4.mono (hb).size)))
    clear hr2 HDG
    have lt_B1 : (w.heap.size) ≤ W4.heap.size := B1.lt
    have lt_B2 : (wr.heap.size) ≤ W4.heap.size := B2.lt
    have lt_B3 : (N1) < W4.heap.size := B3.lt
    have hbase : w.heap.size ≤ W4.heap.size := hb.size
    refine zq Try.mixed (by kernel_rfl) (by kernel_rfl) (fun v => by (simp only [frL, Act.put, pA, pB, pC, Nat.reduceAdd, Nat.zero_add]; exact rfl))
     (fun L v W5 => Below w.heap.size w W5 ∧ W4.heap.size ≤ W5.heap.size ∧ SlT W5 w.heap.size wr.heap.size 100 65 (.slice (some ⟨g, 0, none⟩) R.length cap) (facRows n R) ∧ SzG wr.heap.size W5 ∧ Row W5 (N1) 100 (facC (ofN n N) (k0 + 1)).toArray ∧ (L 14 = false → v 14 = (.int .i64 (t : Int))) ∧ (L 0 = true → v 0 = (.int .i64 (t : Int))) ∧ (L 1 = true → v 1 = (.int .i64 (n : Int))) ∧ (L 2 = true → v 2 = (.int .i64 (d : Int))) ∧ (L 3 = true → v 3 = (.int .i64 (q : Int))) ∧ (L 4 = true → v 4 = (.int .i64 ((q : Int) - 1))) ∧ (L 5 = true → v 5 = (.int .i64 (n : Int))) ∧ (L 6 = true → v 6 = (.int .i64 (d : Int))) ∧ (L 7 = true → v 7 = (.pointer (some ⟨N1, 64, none⟩))) ∧ (L 8 = true → v 8 = (.int .i64 ((k0 : Int) + 1))) ∧ (L 9 = true → v 9 = (.int .i64 (k0 : Int))) ∧ (L 10 = true → v 10 = (.int .i64 ((d : Int) * (k0 : Int)))) ∧ (L 11 = true → v 11 = (.int .i64 (P : Int))) ∧ (L 12 = true → v 12 = (.int .i64 (((q : Int) - 1) * (P : Int)))) ∧ (L 13 = true → v 13 = (.int .i64 ((t : Int) * (((q : Int) - 1) * (P : Int))))) ∧ (L 14 = true → v 14 = (.int .i64 ((t : Int) * (((q : Int) - 1) * (P : Int)))))) ?_ ?_ ?_
    · intro v hv0
      have i14 : v 14 = (.int .i64 (t : Int)) := hv0 14
      exact ⟨hb.drew, Nat.le_refl _, B1.drew, B2.drew, B3.drew, (fun _ => i14), (fun h => by cases h), (fun h => by cases h), (fun h => by cases h), (fun h => by cases h), (fun h => by cases h), (fun h => by cases h), (fun h => by cases h), (fun h => by cases h), (fun h => by cases h), (fun h => by cases h), (fun h => by cases h), (fun h => by cases h), (fun h => by cases h), (fun h => by cases h), (fun h => by cases h)⟩
    · refine (.cons rfl ?_ (.cons rfl ?_ (.cons rfl ?_ (.cons rfl ?_ (.cons rfl ?_ (.cons rfl ?_ (.cons rfl ?_ (.cons rfl ?_ (.cons rfl ?_ (.cons rfl ?_ (.cons rfl ?_ (.cons rfl ?_ (.cons rfl ?_ (.cons rfl ?_ (.cons rfl ?_ (.nil _))))))))))))))))
      all_goals intro L v W5 hd hn ⟨hB, hz, s0, s1, s2, o14, h0, h1, h2, h3, h4, h5, h6, h7, h8, h9, h10, h11, h12, h13, h14⟩ K hK
      · have e14 : v 14 = (.int .i64 (t : Int)) := by
         cases hL : L 14 with
         | false => exact o14 hL
         | true => exact absurd rfl (hn 14 _ rfl hL ⟨0, .phase⟩ (by simp) rfl)
        go_wp2_with fail
        exact hK _ (.int .i64 (t : Int)) _ (by simp only [Act.put, pA, pB, pC, e14]) ⟨hB, hz, s0, s1, s2, o14, (fun _ => rfl), h1, h2, h3, h4, h5, h6, h7, h8, h9, h10, h11, h12, h13, h14⟩
      · go_wp2_with fail
        exact hK _ (.int .i64 (n : Int)) _ (by simp only [Act.put, pA, pB, pC ]) ⟨hB, hz, s0, s1, s2, o14, h0, (fun _ => rfl), h2, h3, h4, h5, h6, h7, h8, h9, h10, h11, h12, h13, h14⟩
      · go_wp2_with fail
        exact hK _ (.int .i64 (d : Int)) _ (by simp only [Act.put, pA, pB, pC ]) ⟨hB, hz, s0, s1, s2, o14, h0, h1, (fun _ => rfl), h3, h4, h5, h6, h7, h8, h9, h10, h11, h12, h13, h14⟩
      · have e1 := h1 (zdq hd 1 rfl)
        have e2 := h2 (zdq hd 2 rfl)
        go_wp2_with (go_at_call 108; refine (HN1.out _).mono ?_; rintro e wy ⟨rfl, hy⟩)
        exact hK _ (.int .i64 (q : Int)) _ (by simp only [Act.put, pA, pB, pC, e1, e2]) ⟨hB.trans (hy.mono hB.size), (Nat.le_trans hz hy.size), s0.zw hy, s1.zw hy, s2.zw hy, o14, h0, h1, h2, (fun _ => rfl), h4, h5, h6, h7, h8, h9, h10, h11, h12, h13, h14⟩
      · have e3 := h3 (zdq hd 3 rfl)
        go_wp2_with fail
        exact hK _ (.int .i64 ((q : Int) - 1)) _ (by simp only [Act.put, pA, pB, pC, e3]) ⟨hB, hz, s0, s1, s2, o14, h0, h1, h2, h3, (fun _ => rfl), h5, h6, h7, h8, h9, h10, h11, h12, h13, h14⟩
      · go_wp2_with fail
        exact hK _ (.int .i64 (n : Int)) _ (by simp only [Act.put, pA, pB, pC ]) ⟨hB, hz, s0, s1, s2, o14, h0, h1, h2, h3, h4, (fun _ => rfl), h6, h7, h8, h9, h10, h11, h12, h13, h14⟩
      · go_wp2_with fail
        exact hK _ (.int .i64 (d : Int)) _ (by simp only [Act.put, pA, pB, pC ]) ⟨hB, hz, s0, s1, s2, o14, h0, h1, h2, h3, h4, h5, (fun _ => rfl), h7, h8, h9, h10, h11, h12, h13, h14⟩
      · go_wp2_with fail
        exact hK _ (.pointer (some ⟨N1, 64, none⟩)) _ (by simp only [Act.put, pA, pB, pC ]) ⟨hB, hz, s0, s1, s2, o14, h0, h1, h2, h3, h4, h5, h6, (fun _ => rfl), h8, h9, h10, h11, h12, h13, h14⟩
      · have e7 := h7 (zdq hd 7 rfl)
        have cc := s2.cell (facC_at _ _)
        rw [show ((k0 + 1 : Nat) : Int) = (k0 : Int) + 1 by push_cast; rfl] at cc
        go_wp2_with fail
        exact hK _ (.int .i64 ((k0 : Int) + 1)) _ (by simp only [Act.put, pA, pB, pC, e7]) ⟨hB, hz, s0, s1, s2, o14, h0, h1, h2, h3, h4, h5, h6, h7, (fun _ => rfl), h9, h10, h11, h12, h13, h14⟩
      · have e8 := h8 (zdq hd 8 rfl)
        go_wp2_with fail
        exact hK _ (.int .i64 (k0 : Int)) _ (by simp only [Act.put, pA, pB, pC, e8]) ⟨hB, hz, s0, s1, s2, o14, h0, h1, h2, h3, h4, h5, h6, h7, h8, (fun _ => rfl), h10, h11, h12, h13, h14⟩
      · have e6 := h6 (zdq hd 6 rfl)
        have e9 := h9 (zdq hd 9 rfl)
        go_wp2_with fail
        exact hK _ (.int .i64 ((d : Int) * (k0 : Int))) _ (by simp only [Act.put, pA, pB, pC, e6, e9]) ⟨hB, hz, s0, s1, s2, o14, h0, h1, h2, h3, h4, h5, h6, h7, h8, h9, (fun _ => rfl), h11, h12, h13, h14⟩
      · have e5 := h5 (zdq hd 5 rfl)
        have e10 := h10 (zdq hd 10 rfl)
        go_wp2_with (go_at_call 108; refine (HN2.out _).mono ?_; rintro e wy ⟨rfl, hy⟩)
        exact hK _ (.int .i64 (P : Int)) _ (by simp only [Act.put, pA, pB, pC, e5, e10]) ⟨hB.trans (hy.mono hB.size), (Nat.le_trans hz hy.size), s0.zw hy, s1.zw hy, s2.zw hy, o14, h0, h1, h2, h3, h4, h5, h6, h7, h8, h9, h10, (fun _ => rfl), h12, h13, h14⟩
      · have e4 := h4 (zdq hd 4 rfl)
        have e11 := h11 (zdq hd 11 rfl)
        go_wp2_with fail
        exact hK _ (.int .i64 (((q : Int) - 1) * (P : Int))) _ (by simp only [Act.put, pA, pB, pC, e4, e11]) ⟨hB, hz, s0, s1, s2, o14, h0, h1, h2, h3, h4, h5, h6, h7, h8, h9, h10, h11, (fun _ => rfl), h13, h14⟩
      · have e0 := h0 (zdq hd 0 rfl)
        have e12 := h12 (zdq hd 12 rfl)
        go_wp2_with fail
        exact hK _ (.int .i64 ((t : Int) * (((q : Int) - 1) * (P : Int)))) _ (by simp only [Act.put, pA, pB, pC, e0, e12]) ⟨hB, hz, s0, s1, s2, o14, h0, h1, h2, h3, h4, h5, h6, h7, h8, h9, h10, h11, h12, (fun _ => rfl), h14⟩
      · have e13 := h13 (zdq hd 13 rfl)
        go_wp2_with fail
        exact hK _ (.int .i64 ((t : Int) * (((q : Int) - 1) * (P : Int)))) _ (by simp only [Act.put, pA, pB, pC, e13]) ⟨hB, hz, s0, s1, s2, (fun h => absurd h (by simp [setL])), h0, h1, h2, h3, h4, h5, h6, h7, h8, h9, h10, h11, h12, h13, (fun _ => rfl)⟩
    · intro L v W5 hL ⟨hB, hz, s0, s1, s2, o14, h0, h1, h2, h3, h4, h5, h6, h7, h8, h9, h10, h11, h12, h13, h14⟩
      have e0 := h0 (hL 0 (by decide))
      have e1 := h1 (hL 1 (by decide))
      have e2 := h2 (hL 2 (by decide))
      have e3 := h3 (hL 3 (by decide))
      have e4 := h4 (hL 4 (by decide))
      have e5 := h5 (hL 5 (by decide))
      have e6 := h6 (hL 6 (by decide))
      have e7 := h7 (hL 7 (by decide))
      have e8 := h8 (hL 8 (by decide))
      have e9 := h9 (hL 9 (by decide))
      have e10 := h10 (hL 10 (by decide))
      have e11 := h11 (hL 11 (by decide))
      have e12 := h12 (hL 12 (by decide))
      have e13 := h13 (hL 13 (by decide))
      have e14 := h14 (hL 14 (by decide))
      clear hL o14 h0 h1 h2 h3 h4 h5 h6 h7 h8 h9 h10 h11 h12 h13 h14
      simp only [Exit.then, e0, e1, e2, e3, e4, e5, e6, e7, e8, e9, e10, e11, e12, e13, e14]
      clear e0 e1 e2 e3 e4 e5 e6 e7 e8 e9 e10 e11 e12 e13 e14
      replace B1 := s0
      clear s0
      replace B2 := s1
      clear s1
      replace B3 := s2
      clear s2
      replace hb := hB
      clear hB
      clear hbase hz lt_B1 lt_B2 lt_B3
      go_upto_region 7 with (fail)
      go_wp2_with fail
      go_roundw
      case rel => exact ⟨j + 1, t * ((q - 1) * P), S2, by rw [HT.out], by go_num, by omega, HSW.out, HR1, HE2, hb, B1.1⟩
      case measure => simp [intOf] <;> omega
  · have hjl : ¬ (j : Int) < (R.length : Int) := by omega
    have HV := Lib.hid (show euG n 1 R = t by rw [hE.out, euG_end (by omega)])
    go_wp2_with fail
    go_ret
    exact ⟨by rw [HV.out]; rfl, hb⟩
end Go.Proofs.Ytoncepgcfifgbaa
namespace Go.Proofs.Ytoncepgcfifgbaa
open Go Go.RowKit
set_option linter.unusedVariables false
set_option linter.unusedSimpArgs false
attribute [local irreducible] deg facRows run pmP euG bzD
/-- one prime number taken out, as often as it divides -/
def odI (T : Nat → Bool) : Nat → Nat → Nat → Nat → Nat × Nat
 | 0, _, l, o => (l, o)
 | f + 1, q, l, o => if l % q = 0 then odI T f q (l / q) (if T (o / q) = true then o / q else o) else (l, o)
def odO (T : Nat → Bool) : Nat → Nat → Nat → Nat → Nat
 | 0, _, _, o => o
 | f + 1, q, l, o => if 1 < l then odO T f (q + 1) (odI T l q l o).1 (odI T l q l o).2 else o
theorem odI_stop {T : Nat → Bool} {f q l o : Nat} (h : ¬ l % q = 0) : odI T f q l o = (l, o) := by
 cases f with
 | zero => rfl
 | succ f => rw [odI, if_neg h]
theorem odI_yes {T : Nat → Bool} {f q l o : Nat} (h : l % q = 0) (ht : T (o / q) = true) : odI T (f + 1) q l o = odI T f q (l / q) (o / q) := by rw [odI, if_pos h, if_pos ht]
theorem odI_no {T : Nat → Bool} {f q l o : Nat} (h : l % q = 0) (ht : T (o / q) = false) : odI T (f + 1) q l o = odI T f q (l / q) o := by rw [odI, if_pos h, if_neg (by rw [ht]; simp)]
theorem odO_stop {T : Nat → Bool} {f q l o : Nat} (h : ¬ 1 < l) : odO T f q l o = o := by
 cases f with
 | zero => rfl
 | succ f => rw [odO, if_neg h]
theorem odO_step {T : Nat → Bool} {f q l o l2 o2 : Nat} (h : 1 < l) (h2 : odI T l q l o = (l2, o2)) : odO T (f + 1) q l o = odO T f (q + 1) l2 o2 := by rw [odO, if_pos h, h2]
/-- the Euler number is not great -/
theorem euG_le {p : Nat} (hp2 : 2 ≤ p) (hp7 : p ≤ 7) : ∀ (l : List (Nat × Nat)) (t s : Nat), (∀ x ∈ l, 1 ≤ x.2 ∧ 1 ≤ deg (ofN p x.1)) → 1 ≤ t → t ≤ p ^ s → s + wtS p l ≤ 12 → 1 ≤ euG p t l ∧ euG p t l ≤ 13841287201
 | [], t, s, _, h1, h2, h3 => by
  have e : euG p t [] = t := by unfold euG; rfl
  rw [e]
  exact ⟨h1, Nat.le_trans h2 (mon_bound hp7 (by have : wtS p [] = 0 := rfl; omega))⟩
 | x :: l, t, s, hx, h1, h2, h3 => by
  obtain ⟨a1, a2⟩ := hx x (by simp)
  obtain ⟨N, K⟩ := x
  dsimp only at a1 a2
  obtain ⟨k0, rfl⟩ : ∃ k, K = k + 1 := ⟨K - 1, by omega⟩
  obtain ⟨d, hd⟩ : ∃ d, d = (deg (ofN p N)).toNat := ⟨_, rfl⟩
  have hw : wtS p ((N, k0 + 1) :: l) = d * (k0 + 1) + wtS p l := by rw [hd]; rfl
  rw [hw] at h3
  have r := eu_round (d := d) (k0 := k0) hp2 hp7 h2 (by omega)
  have e : euG p t ((N, k0 + 1) :: l) = euG p (t * ((p ^ d - 1) * p ^ (d * k0))) l := by
   rw [hd, euG, euU, Nat.add_sub_cancel]
  rw [e]
  have hpd : 2 ≤ p ^ d := by
   have : p ^ 1 ≤ p ^ d := Nat.pow_le_pow_right (by omega) (by omega)
   rw [Nat.pow_one] at this; omega
  have h4 : 1 * (1 * 1) ≤ t * ((p ^ d - 1) * p ^ (d * k0)) := Nat.mul_le_mul h1 (Nat.mul_le_mul (by omega) (Nat.pow_pos (by omega)))
  exact euG_le hp2 hp7 l _ (s + d * (k0 + 1)) (fun y hy => hx y (by simp [hy])) (by omega) r.1 (by omega)
def euN (p : Nat) (m : Nat → Nat) : Nat := euG p 1 (run p 64 1 m)
theorem euN_le {p : Nat} {m : Nat → Nat} (hp : p = 2 ∨ p = 3 ∨ p = 5 ∨ p = 7) (lm : ∀ k, k < 64 → m k < p) (h0 : 0 ≤ deg m) (h12 : deg m ≤ 12) : 1 ≤ euN p m ∧ euN p m ≤ 13841287201 := by
 obtain ⟨_, h2, h3⟩ := run_ok hp lm h0 h12
 exact euG_le (by omega) (by omega) _ 1 0 h3 (Nat.le_refl _) (by rw [Nat.pow_zero]; exact Nat.le_refl _) (by omega)
/-- the power is 1 -/
def tsT (p : Nat) (f m : Nat → Nat) (k : Nat) : Bool := eqN 64 (pmP p f k m) oneP
/-- the order -/
def odN (p : Nat) (f m : Nat → Nat) : Nat := odO (tsT p f m) (euN p m + 2) 2 (euN p m) (euN p m)
attribute [local irreducible] odI odO euN tsT
set_option maxRecDepth 100000 in
set_option maxHeartbeats 3200000 in
theorem l02Order_any (p : Nat) (f m : Nat → Nat) (w : World) (hpr : p = 2 ∨ p = 3 ∨ p = 5 ∨ p = 7) (lf : ∀ k, k < 64 → f k < p) (lm : ∀ k, k < 64 → m k < p) (h0 : 0 ≤ deg m) (h12 : deg m ≤ 12) :
 Calls Try.prog 117 #[.int .i64 (p : Int), .agg (zb 64 f), .agg (zb 64 m)] w fun e w' => e = .returned (.int .i64 (odN p f m : Int)) ∧ Below w.heap.size w w' := by
 obtain ⟨E, hE⟩ : ∃ E, E = euN p m := ⟨_, rfl⟩
 have HEU := Lib.hid (show ∀ W, Calls Try.prog 113 #[.int .i64 (p : Int), .agg (zb 64 m)] W fun e w' => e = .returned (.int .i64 (E : Int)) ∧ Below W.heap.size W w' by
  intro W; have := l02Euler_any p m W hpr lm h0 h12; rw [hE]; unfold euN; exact this)
 obtain ⟨E1, E2⟩ := euN_le hpr lm h0 h12
 rw [← hE] at E1 E2
 have HOD := Lib.hid (show odN p f m = odO (tsT p f m) (E + 2) 2 E E by unfold odN; rw [← hE])
 have HPM := Lib.hid (show ∀ k : Nat, k ≤ E → ∀ W, Calls Try.prog 96 #[.int .i64 (p : Int), .agg (zb 64 f), .int .i64 (k : Int), .agg (zb 64 m)] W fun e w' => e = .returned (.agg (zb 64 (pmP p f k m))) ∧ Below W.heap.size W w' from
  fun k hk W => l01PowMod_any p f k m W hpr lf lm h0 (by omega))
 clear hE
 go_enter Try.func117, Try.ntmps117
 go_upto_region 1 with (fail)
 obtain ⟨W1, hwo⟩ : ∃ v : World, v = ((w.alloc (.cells (zb 64 (f)) 23)).alloc (.cells (zb 64 (m)) 23)) := ⟨_, rfl⟩
 have B0 : Blk W1 (w.heap.size) 64 23 (f) := by subst hwo; have := ((Blk.new w 64 23 (f)).alloc (.cells (zb 64 (m)) 23)); simpa using this
 have B1 : Blk W1 (w.heap.size + 1) 64 23 (m) := by subst hwo; have := (Blk.new (w.alloc (.cells (zb 64 (f)) 23)) 64 23 (m)); simpa using this
 have hb : Below w.heap.size w W1 := by subst hwo; exact (((Below.refl _ _).alloc (Nat.le_refl _) _).alloc (by simp) _)
 rw [← hwo]
 clear hwo
 go_upto_region 2 with (first | (refine zla (.tmp 5) B1 Try.underlying23 Try.size23 ?_) | (go_at_call 113; refine (HEU.out _).mono ?_; rintro e W2 ⟨rfl, hW2⟩; replace B0 := B0.zw hW2; replace B1 := B1.zw hW2; replace hb := (hb).trans (hW2.mono (hb).size)))
 clear HEU
 go_wp2_with fail
 go_loopw [7, 8, 9] (fun o l q wr => ∃ (fu O L Q : Nat), o = .int .i64 (O : Int) ∧ l = .int .i64 (L : Int) ∧ q = .int .i64 (Q : Int) ∧ Hid (odN p f m = odO (tsT p f m) fu Q L O) ∧ Q + fu = E + 4 ∧ 2 ≤ Q ∧ 1 ≤ L ∧ L ≤ E ∧ O ≤ E ∧ Hid (∀ d, 2 ≤ d → d < Q → ¬ d ∣ L) ∧ Below w.heap.size w wr ∧ Blk wr (w.heap.size) 64 23 f ∧ Blk wr (w.heap.size + 1) 64 23 m) (fun _ _ q _ => E + 5 - (intOf q).toNat)
 case atStart => exact ⟨E + 2, E, E, 2, rfl, rfl, rfl, HOD, by omega, by omega, E1, Nat.le_refl _, Nat.le_refl _, Lib.hid (fun d h1 h2 => by omega), hb, B0, B1⟩
 case round =>
  clear hb B0 B1 HOD
  obtain ⟨fu, O, L, Q, rfl, rfl, rfl, hO, hfu, hQ2, hL1, hLE, hOE, hdv, hb, B0, B1⟩ := hrel
  have HFU := Lib.hid hfu
  have hQE : Q ≤ E + 4 := by omega
  clear hfu
  by_cases hL : 1 < L
  · have hQL : Q ≤ L := by
     by_cases h : Q ≤ L
     · exact h
     · exact absurd (Nat.dvd_refl L) (hdv.out L (by omega) (by omega))
    obtain ⟨fu, rfl⟩ : ∃ g, fu = g + 1 := ⟨fu - 1, by have := HFU.out; omega⟩
    go_wp2_with fail
    go_loopw [7, 8] (fun o l wr => ∃ (fi O1 L1 : Nat), o = .int .i64 (O1 : Int) ∧ l = .int .i64 (L1 : Int) ∧ Hid (odI (tsT p f m) L Q L O = odI (tsT p f m) fi Q L1 O1) ∧ L1 ≤ fi ∧ 1 ≤ L1 ∧ L1 ≤ L ∧ Hid (L1 ∣ L) ∧ O1 ≤ E ∧ Below w.heap.size w wr ∧ Blk wr (w.heap.size) 64 23 f ∧ Blk wr (w.heap.size + 1) 64 23 m) (fun _ l _ => (intOf l).toNat)
    case atStart => exact ⟨L, O, L, rfl, rfl, Lib.hid rfl, Nat.le_refl _, hL1, Nat.le_refl _, Lib.hid (Nat.dvd_refl _), hOE, hb, B0, B1⟩
    case round =>
     clear hb B0 B1
     obtain ⟨fi, O1, L1, rfl, rfl, hI, hfi, hL11, hL1L, hLd, hO1, hb, B0, B1⟩ := hrel
     have tq1 : (L1 : Int).tmod (Q : Int) = ((L1 % Q : Nat) : Int) := by rw [Int.tmod_eq_emod_of_nonneg (by omega)]; rfl
     by_cases hd : L1 % Q = 0
     · obtain ⟨fi, rfl⟩ : ∃ g, fi = g + 1 := ⟨fi - 1, by omega⟩
       rw [hd] at tq1
       obtain ⟨L2, hL2⟩ : ∃ x, x = L1 / Q := ⟨_, rfl⟩
       obtain ⟨O2, hO2⟩ : ∃ x, x = O1 / Q := ⟨_, rfl⟩
       have tq2 : (L1 : Int).tdiv (Q : Int) = (L2 : Int) := by rw [Int.tdiv_eq_ediv_of_nonneg (by omega), hL2]; rfl
       have tq3 : (O1 : Int).tdiv (Q : Int) = (O2 : Int) := by rw [Int.tdiv_eq_ediv_of_nonneg (by omega), hO2]; rfl
       have hm2 : L2 * Q = L1 := by rw [hL2]; exact Nat.div_mul_cancel (Nat.dvd_of_mod_eq_zero hd)
       have hL21 : 1 ≤ L2 := by
        by_cases h : L2 = 0
        · rw [h] at hm2; omega
        · omega
       have hL22 : L2 * 2 ≤ L1 := by rw [← hm2]; exact Nat.mul_le_mul_left L2 hQ2
       have HLD := Lib.hid (show L2 ∣ L from Nat.dvd_trans ⟨Q, hm2.symm⟩ hLd.out)
       have hO2E : O2 ≤ E := by rw [hO2]; exact Nat.le_trans (Nat.div_le_self _ _) hO1
       have hO21 : O2 ≤ O1 := by rw [hO2]; exact Nat.div_le_self _ _
       have HPM2 := Lib.hid (HPM.out O2 hO2E)
       cases hT : eqN 64 (pmP p f O2 m) oneP with
       | true =>
        have HI2 := Lib.hid (show odI (tsT p f m) L Q L O = odI (tsT p f m) fi Q L2 O2 by rw [hI.out, odI_yes hd (by rw [← hO2]; unfold tsT; exact hT), ← hL2, ← hO2])
        have hgd := Try.noGuard23
        have heq := fun W => zeb (P := Try.prog) W 9998 23 5 64 (pmP p f O2 m) oneP Try.underlying23 Try.underlying5 Try.size5
        rw [hT] at heq
        clear hT hI hL2 hO2 hm2 hd hLd
        go_upto_region 8 with (fail)
        have lt_B0 : (w.heap.size) < wr.heap.size := B0.lt
        have lt_B1 : (w.heap.size + 1) < wr.heap.size := B1.lt
        have hbase : w.heap.size ≤ wr.heap.size := hb.size
        refine zq Try.mixed (by kernel_rfl) (by kernel_rfl) (fun v => by (simp only [frL, Act.put, pA, pB, pC, Nat.reduceAdd, Nat.zero_add]; exact rfl))
         (fun L v W3 => Below w.heap.size w W3 ∧ wr.heap.size ≤ W3.heap.size ∧ Blk W3 (w.heap.size) 64 23 (f) ∧ Blk W3 (w.heap.size + 1) 64 23 (m) ∧ (L 0 = true → v 0 = (.int .i64 (p : Int))) ∧ (L 1 = true → v 1 = (.agg (zb 64 (f)))) ∧ (L 2 = true → v 2 = (.int .i64 (O1 : Int))) ∧ (L 3 = true → v 3 = (.int .i64 (Q : Int))) ∧ (L 4 = true → v 4 = (.int .i64 (O2 : Int))) ∧ (L 5 = true → v 5 = (.agg (zb 64 (m)))) ∧ (L 6 = true → v 6 = (.agg (zb 64 (pmP p f O2 m)))) ∧ (L 7 = true → v 7 = (.agg (zb 64 (oneP)))) ∧ (L 8 = true → v 8 = (.bool true))) ?_ ?_ ?_
        · intro v hv0
          exact ⟨hb.drew, Nat.le_refl _, B0.drew, B1.drew, (fun h => by cases h), (fun h => by cases h), (fun h => by cases h), (fun h => by cases h), (fun h => by cases h), (fun h => by cases h), (fun h => by cases h), (fun h => by cases h), (fun h => by cases h)⟩
        · refine (.cons rfl ?_ (.cons rfl ?_ (.cons rfl ?_ (.cons rfl ?_ (.cons rfl ?_ (.cons rfl ?_ (.cons rfl ?_ (.cons rfl ?_ (.cons rfl ?_ (.nil _))))))))))
          all_goals intro L v W3 hd hn ⟨hB, hz, s0, s1, h0, h1, h2, h3, h4, h5, h6, h7, h8⟩ K hK
          · go_wp2_with fail
            exact hK _ (.int .i64 (p : Int)) _ (by simp only [Act.put, pA, pB, pC ]) ⟨hB, hz, s0, s1, (fun _ => rfl), h1, h2, h3, h4, h5, h6, h7, h8⟩
          · refine zlc s0 Try.underlying23 Try.size23 ?_
            exact hK _ _ _ rfl ⟨hB, hz, s0, s1, h0, (fun _ => rfl), h2, h3, h4, h5, h6, h7, h8⟩
          · go_wp2_with fail
            exact hK _ (.int .i64 (O1 : Int)) _ (by simp only [Act.put, pA, pB, pC ]) ⟨hB, hz, s0, s1, h0, h1, (fun _ => rfl), h3, h4, h5, h6, h7, h8⟩
          · go_wp2_with fail
            exact hK _ (.int .i64 (Q : Int)) _ (by simp only [Act.put, pA, pB, pC ]) ⟨hB, hz, s0, s1, h0, h1, h2, (fun _ => rfl), h4, h5, h6, h7, h8⟩
          · have e2 := h2 (zdq hd 2 rfl)
            have e3 := h3 (zdq hd 3 rfl)
            go_wp2_with fail
            exact hK _ (.int .i64 (O2 : Int)) _ (by simp only [Act.put, pA, pB, pC, e2, e3]) ⟨hB, hz, s0, s1, h0, h1, h2, h3, (fun _ => rfl), h5, h6, h7, h8⟩
          · refine zlc s1 Try.underlying23 Try.size23 ?_
            exact hK _ _ _ rfl ⟨hB, hz, s0, s1, h0, h1, h2, h3, h4, (fun _ => rfl), h6, h7, h8⟩
          · have e0 := h0 (zdq hd 0 rfl)
            have e1 := h1 (zdq hd 1 rfl)
            have e4 := h4 (zdq hd 4 rfl)
            have e5 := h5 (zdq hd 5 rfl)
            go_wp2_with (go_at_call 96; refine (HPM2.out _).mono ?_; rintro e wy ⟨rfl, hy⟩)
            exact hK _ (.agg (zb 64 (pmP p f O2 m))) _ (by simp only [Act.put, pA, pB, pC, e0, e1, e4, e5]) ⟨hB.trans (hy.mono hB.size), (Nat.le_trans hz hy.size), s0.zw hy, s1.zw hy, h0, h1, h2, h3, h4, h5, (fun _ => rfl), h7, h8⟩
          · go_wp2_with (go_at_call 90; refine (l01One_any _).mono ?_; rintro e wy ⟨rfl, hy⟩)
            exact hK _ (.agg (zb 64 (oneP))) _ (by simp only [Act.put, pA, pB, pC ]) ⟨hB.trans (hy.mono hB.size), (Nat.le_trans hz hy.size), s0.zw hy, s1.zw hy, h0, h1, h2, h3, h4, h5, h6, (fun _ => rfl), h8⟩
          · have e6 := h6 (zdq hd 6 rfl)
            have e7 := h7 (zdq hd 7 rfl)
            go_wp2_with fail
            exact hK _ (.bool true) _ (by simp only [Act.put, pA, pB, pC, e6, e7]) ⟨hB, hz, s0, s1, h0, h1, h2, h3, h4, h5, h6, h7, (fun _ => rfl)⟩
        · intro L v W3 hL ⟨hB, hz, s0, s1, h0, h1, h2, h3, h4, h5, h6, h7, h8⟩
          have e0 := h0 (hL 0 (by decide))
          have e1 := h1 (hL 1 (by decide))
          have e2 := h2 (hL 2 (by decide))
          have e3 := h3 (hL 3 (by decide))
          have e4 := h4 (hL 4 (by decide))
          have e5 := h5 (hL 5 (by decide))
          have e6 := h6 (hL 6 (by decide))
          have e7 := h7 (hL 7 (by decide))
          have e8 := h8 (hL 8 (by decide))
          clear hL h0 h1 h2 h3 h4 h5 h6 h7 h8
          simp only [Exit.then, e0, e1, e2, e3, e4, e5, e6, e7, e8]
          clear e0 e1 e2 e3 e4 e5 e6 e7 e8
          replace B0 := s0
          clear s0
          replace B1 := s1
          clear s1
          replace hb := hB
          clear hB
          clear hbase hz lt_B0 lt_B1
          clear hgd heq HPM2
          go_wp2_with fail
          go_roundw
          case rel => exact ⟨fi, O2, L2, rfl, rfl, HI2, by omega, hL21, by omega, HLD, hO2E, hb, B0, B1⟩
          case measure => simp [intOf] <;> omega
       | false =>
        have HI2 := Lib.hid (show odI (tsT p f m) L Q L O = odI (tsT p f m) fi Q L2 O1 by rw [hI.out, odI_no hd (by rw [← hO2]; unfold tsT; exact hT), ← hL2])
        have hgd := Try.noGuard23
        have heq := fun W => zeb (P := Try.prog) W 9998 23 5 64 (pmP p f O2 m) oneP Try.underlying23 Try.underlying5 Try.size5
        rw [hT] at heq
        clear hT hI hL2 hO2 hm2 hd hLd
        go_upto_region 8 with (fail)
        have lt_B0 : (w.heap.size) < wr.heap.size := B0.lt
        have lt_B1 : (w.heap.size + 1) < wr.heap.size := B1.lt
        have hbase : w.heap.size ≤ wr.heap.size := hb.size
        refine zq Try.mixed (by kernel_rfl) (by kernel_rfl) (fun v => by (simp only [frL, Act.put, pA, pB, pC, Nat.reduceAdd, Nat.zero_add]; exact rfl))
         (fun L v W3 => Below w.heap.size w W3 ∧ wr.heap.size ≤ W3.heap.size ∧ Blk W3 (w.heap.size) 64 23 (f) ∧ Blk W3 (w.heap.size + 1) 64 23 (m) ∧ (L 0 = true → v 0 = (.int .i64 (p : Int))) ∧ (L 1 = true → v 1 = (.agg (zb 64 (f)))) ∧ (L 2 = true → v 2 = (.int .i64 (O1 : Int))) ∧ (L 3 = true → v 3 = (.int .i64 (Q : Int))) ∧ (L 4 = true → v 4 = (.int .i64 (O2 : Int))) ∧ (L 5 = true → v 5 = (.agg (zb 64 (m)))) ∧ (L 6 = true → v 6 = (.agg (zb 64 (pmP p f O2 m)))) ∧ (L 7 = true → v 7 = (.agg (zb 64 (oneP)))) ∧ (L 8 = true → v 8 = (.bool false))) ?_ ?_ ?_
        · intro v hv0
          exact ⟨hb.drew, Nat.le_refl _, B0.drew, B1.drew, (fun h => by cases h), (fun h => by cases h), (fun h => by cases h), (fun h => by cases h), (fun h => by cases h), (fun h => by cases h), (fun h => by cases h), (fun h => by cases h), (fun h => by cases h)⟩
        · refine (.cons rfl ?_ (.cons rfl ?_ (.cons rfl ?_ (.cons rfl ?_ (.cons rfl ?_ (.cons rfl ?_ (.cons rfl ?_ (.cons rfl ?_ (.cons rfl ?_ (.nil _))))))))))
          all_goals intro L v W3 hd hn ⟨hB, hz, s0, s1, h0, h1, h2, h3, h4, h5, h6, h7, h8⟩ K hK
          · go_wp2_with fail
            exact hK _ (.int .i64 (p : Int)) _ (by simp only [Act.put, pA, pB, pC ]) ⟨hB, hz, s0, s1, (fun _ => rfl), h1, h2, h3, h4, h5, h6, h7, h8⟩
          · refine zlc s0 Try.underlying23 Try.size23 ?_
            exact hK _ _ _ rfl ⟨hB, hz, s0, s1, h0, (fun _ => rfl), h2, h3, h4, h5, h6, h7, h8⟩
          · go_wp2_with fail
            exact hK _ (.int .i64 (O1 : Int)) _ (by simp only [Act.put, pA, pB, pC ]) ⟨hB, hz, s0, s1, h0, h1, (fun _ => rfl), h3, h4, h5, h6, h7, h8⟩
          · go_wp2_with fail
            exact hK _ (.int .i64 (Q : Int)) _ (by simp only [Act.put, pA, pB, pC ]) ⟨hB, hz, s0, s1, h0, h1, h2, (fun _ => rfl), h4, h5, h6, h7, h8⟩
          · have e2 := h2 (zdq hd 2 rfl)
            have e3 := h3 (zdq hd 3 rfl)
            go_wp2_with fail
            exact hK _ (.int .i64 (O2 : Int)) _ (by simp only [Act.put, pA, pB, pC, e2, e3]) ⟨hB, hz, s0, s1, h0, h1, h2, h3, (fun _ => rfl), h5, h6, h7, h8⟩
          · refine zlc s1 Try.underlying23 Try.size23 ?_
            exact hK _ _ _ rfl ⟨hB, hz, s0, s1, h0, h1, h2, h3, h4, (fun _ => rfl), h6, h7, h8⟩
          · have e0 := h0 (zdq hd 0 rfl)
            have e1 := h1 (zdq hd 1 rfl)
            have e4 := h4 (zdq hd 4 rfl)
            have e5 := h5 (zdq hd 5 rfl)
            go_wp2_with (go_at_call 96; refine (HPM2.out _).mono ?_; rintro e wy ⟨rfl, hy⟩)
            exact hK _ (.agg (zb 64 (pmP p f O2 m))) _ (by simp only [Act.put, pA, pB, pC, e0, e1, e4, e5]) ⟨hB.trans (hy.mono hB.size), (Nat.le_trans hz hy.size), s0.zw hy, s1.zw hy, h0, h1, h2, h3, h4, h5, (fun _ => rfl), h7, h8⟩
          · go_wp2_with (go_at_call 90; refine (l01One_any _).mono ?_; rintro e wy ⟨rfl, hy⟩)
            exact hK _ (.agg (zb 64 (oneP))) _ (by simp only [Act.put, pA, pB, pC ]) ⟨hB.trans (hy.mono hB.size), (Nat.le_trans hz hy.size), s0.zw hy, s1.zw hy, h0, h1, h2, h3, h4, h5, h6, (fun _ => rfl), h8⟩
          · have e6 := h6 (zdq hd 6 rfl)
            have e7 := h7 (zdq hd 7 rfl)
            go_wp2_with fail
            exact hK _ (.bool false) _ (by simp only [Act.put, pA, pB, pC, e6, e7]) ⟨hB, hz, s0, s1, h0, h1, h2, h3, h4, h5, h6, h7, (fun _ => rfl)⟩
        · intro L v W3 hL ⟨hB, hz, s0, s1, h0, h1, h2, h3, h4, h5, h6, h7, h8⟩
          have e0 := h0 (hL 0 (by decide))
          have e1 := h1 (hL 1 (by decide))
          have e2 := h2 (hL 2 (by decide))
          have e3 := h3 (hL 3 (by decide))
          have e4 := h4 (hL 4 (by decide))
          have e5 := h5 (hL 5 (by decide))
          have e6 := h6 (hL 6 (by decide))
          have e7 := h7 (hL 7 (by decide))
          have e8 := h8 (hL 8 (by decide))
          clear hL h0 h1 h2 h3 h4 h5 h6 h7 h8
          simp only [Exit.then, e0, e1, e2, e3, e4, e5, e6, e7, e8]
          clear e0 e1 e2 e3 e4 e5 e6 e7 e8
          replace B0 := s0
          clear s0
          replace B1 := s1
          clear s1
          replace hb := hB
          clear hB
          clear hbase hz lt_B0 lt_B1
          clear hgd heq HPM2
          go_wp2_with fail
          go_roundw
          case rel => exact ⟨fi, O1, L2, rfl, rfl, HI2, by omega, hL21, by omega, HLD, hO1, hb, B0, B1⟩
          case measure => simp [intOf] <;> omega
     · have hne : ((L1 % Q : Nat) : Int) ≠ 0 := by omega
       have HN := Lib.hid (show odN p f m = odO (tsT p f m) fu (Q + 1) L1 O1 by rw [hO.out, odO_step hL (by rw [hI.out, odI_stop hd])])
       have HD := Lib.hid (show ∀ d, 2 ≤ d → d < Q + 1 → ¬ d ∣ L1 from fun d d1 d2 h => by
        by_cases e : d = Q
        · subst e; exact hd (Nat.mod_eq_zero_of_dvd h)
        · exact hdv.out d d1 (by omega) (Nat.dvd_trans h hLd.out))
       clear hO hI hdv hLd hd
       go_wp2_with fail
       go_roundw
       case rel => exact ⟨fu, O1, L1, Q + 1, rfl, rfl, by go_num, HN, by have := HFU.out; omega, by omega, hL11, by omega, hO1, HD, hb, B0, B1⟩
       case measure => simp [intOf] <;> omega
  · have hl1 : L = 1 := by omega
    subst hl1
    have HV := Lib.hid (show odN p f m = O by rw [hO.out, odO_stop (by omega)])
    clear hO hdv
    go_wp2_with fail
    go_ret
    exact ⟨by rw [HV.out]; rfl, hb⟩
set_option maxRecDepth 100000 in
set_option maxHeartbeats 3200000 in
theorem orderOf_any (p : Nat) (f m : Nat → Nat) (w : World) (hpr : p = 2 ∨ p = 3 ∨ p = 5 ∨ p = 7) (lf : ∀ k, k < 64 → f k < p) (lm : ∀ k, k < 64 → m k < p) (h0 : 0 ≤ deg m) (h12 : deg m ≤ 12) :
 Calls Try.prog 120 #[.int .i64 (p : Int), .agg (zb 64 f), .agg (zb 64 m)] w fun e w' => e = .returned (.int .i64 (odN p f m : Int)) ∧ Below w.heap.size w w' := by
 obtain ⟨E, hE⟩ : ∃ E, E = euN p m := ⟨_, rfl⟩
 have HEU := Lib.hid (show ∀ W, Calls Try.prog 114 #[.int .i64 (p : Int), .agg (zb 64 m)] W fun e w' => e = .returned (.int .i64 (E : Int)) ∧ Below W.heap.size W w' by
  intro W; have := eulerOf_any p m W hpr lm h0 h12; rw [hE]; unfold euN; exact this)
 obtain ⟨E1, E2⟩ := euN_le hpr lm h0 h12
 rw [← hE] at E1 E2
 have HOD := Lib.hid (show odN p f m = odO (tsT p f m) (E + 2) 2 E E by unfold odN; rw [← hE])
 have HPM := Lib.hid (show ∀ k : Nat, k ≤ E → ∀ W, Calls Try.prog 97 #[.int .i64 (p : Int), .agg (zb 64 f), .int .i64 (k : Int), .agg (zb 64 m)] W fun e w' => e = .returned (.agg (zb 64 (pmP p f k m))) ∧ Below W.heap.size W w' from
  fun k hk W => powerModulo_any p f k m W hpr lf lm h0 (by omega))
 clear hE
 go_enter Try.func120, Try.ntmps120
 go_upto_region 1 with (fail)
 obtain ⟨W1, hwo⟩ : ∃ v : World, v = ((w.alloc (.cells (zb 64 (f)) 23)).alloc (.cells (zb 64 (m)) 23)) := ⟨_, rfl⟩
 have B0 : Blk W1 (w.heap.size) 64 23 (f) := by subst hwo; have := ((Blk.new w 64 23 (f)).alloc (.cells (zb 64 (m)) 23)); simpa using this
 have B1 : Blk W1 (w.heap.size + 1) 64 23 (m) := by subst hwo; have := (Blk.new (w.alloc (.cells (zb 64 (f)) 23)) 64 23 (m)); simpa using this
 have hb : Below w.heap.size w W1 := by subst hwo; exact (((Below.refl _ _).alloc (Nat.le_refl _) _).alloc (by simp) _)
 rw [← hwo]
 clear hwo
 go_upto_region 2 with (first | (refine zla (.tmp 5) B1 Try.underlying23 Try.size23 ?_) | (go_at_call 114; refine (HEU.out _).mono ?_; rintro e W2 ⟨rfl, hW2⟩; replace B0 := B0.zw hW2; replace B1 := B1.zw hW2; replace hb := (hb).trans (hW2.mono (hb).size)))
 clear HEU
 go_wp2_with fail
 go_loopw [7, 8, 9] (fun o l q wr => ∃ (fu O L Q : Nat), o = .int .i64 (O : Int) ∧ l = .int .i64 (L : Int) ∧ q = .int .i64 (Q : Int) ∧ Hid (odN p f m = odO (tsT p f m) fu Q L O) ∧ Q + fu = E + 4 ∧ 2 ≤ Q ∧ 1 ≤ L ∧ L ≤ E ∧ O ≤ E ∧ Hid (∀ d, 2 ≤ d → d < Q → ¬ d ∣ L) ∧ Below w.heap.size w wr ∧ Blk wr (w.heap.size) 64 23 f ∧ Blk wr (w.heap.size + 1) 64 23 m) (fun _ _ q _ => E + 5 - (intOf q).toNat)
 case atStart => exact ⟨E + 2, E, E, 2, rfl, rfl, rfl, HOD, by omega, by omega, E1, Nat.le_refl _, Nat.le_refl _, Lib.hid (fun d h1 h2 => by omega), hb, B0, B1⟩
 case round =>
  clear hb B0 B1 HOD
  obtain ⟨fu, O, L, Q, rfl, rfl, rfl, hO, hfu, hQ2, hL1, hLE, hOE, hdv, hb, B0, B1⟩ := hrel
  have HFU := Lib.hid hfu
  have hQE : Q ≤ E + 4 := by omega
  clear hfu
  by_cases hL : 1 < L
  · have hQL : Q ≤ L := by
     by_cases h : Q ≤ L
     · exact h
     · exact absurd (Nat.dvd_refl L) (hdv.out L (by omega) (by omega))
    obtain ⟨fu, rfl⟩ : ∃ g, fu = g + 1 := ⟨fu - 1, by have := HFU.out; omega⟩
    go_wp2_with fail
    rw [show decide (1 < (L : Int)) = true by simp; omega]
    go_loopw [7, 8] (fun o l wr => ∃ (fi O1 L1 : Nat), o = .int .i64 (O1 : Int) ∧ l = .int .i64 (L1 : Int) ∧ Hid (odI (tsT p f m) L Q L O = odI (tsT p f m) fi Q L1 O1) ∧ L1 ≤ fi ∧ 1 ≤ L1 ∧ L1 ≤ L ∧ Hid (L1 ∣ L) ∧ O1 ≤ E ∧ Below w.heap.size w wr ∧ Blk wr (w.heap.size) 64 23 f ∧ Blk wr (w.heap.size + 1) 64 23 m) (fun _ l _ => (intOf l).toNat)
    case atStart => exact ⟨L, O, L, rfl, rfl, Lib.hid rfl, Nat.le_refl _, hL1, Nat.le_refl _, Lib.hid (Nat.dvd_refl _), hOE, hb, B0, B1⟩
    case round =>
     clear hb B0 B1
     obtain ⟨fi, O1, L1, rfl, rfl, hI, hfi, hL11, hL1L, hLd, hO1, hb, B0, B1⟩ := hrel
     have tq1 : (L1 : Int).tmod (Q : Int) = ((L1 % Q : Nat) : Int) := by rw [Int.tmod_eq_emod_of_nonneg (by omega)]; rfl
     by_cases hd : L1 % Q = 0
     · obtain ⟨fi, rfl⟩ : ∃ g, fi = g + 1 := ⟨fi - 1, by omega⟩
       rw [hd] at tq1
       obtain ⟨L2, hL2⟩ : ∃ x, x = L1 / Q := ⟨_, rfl⟩
       obtain ⟨O2, hO2⟩ : ∃ x, x = O1 / Q := ⟨_, rfl⟩
       have tq2 : (L1 : Int).tdiv (Q : Int) = (L2 : Int) := by rw [Int.tdiv_eq_ediv_of_nonneg (by omega), hL2]; rfl
       have tq3 : (O1 : Int).tdiv (Q : Int) = (O2 : Int) := by rw [Int.tdiv_eq_ediv_of_nonneg (by omega), hO2]; rfl
       have hm2 : L2 * Q = L1 := by rw [hL2]; exact Nat.div_mul_cancel (Nat.dvd_of_mod_eq_zero hd)
       have hL21 : 1 ≤ L2 := by
        by_cases h : L2 = 0
        · rw [h] at hm2; omega
        · omega
       have hL22 : L2 * 2 ≤ L1 := by rw [← hm2]; exact Nat.mul_le_mul_left L2 hQ2
       have HLD := Lib.hid (show L2 ∣ L from Nat.dvd_trans ⟨Q, hm2.symm⟩ hLd.out)
       have hO2E : O2 ≤ E := by rw [hO2]; exact Nat.le_trans (Nat.div_le_self _ _) hO1
       have hO21 : O2 ≤ O1 := by rw [hO2]; exact Nat.div_le_self _ _
       have HPM2 := Lib.hid (HPM.out O2 hO2E)
       cases hT : eqN 64 (pmP p f O2 m) oneP with
       | true =>
        have HI2 := Lib.hid (show odI (tsT p f m) L Q L O = odI (tsT p f m) fi Q L2 O2 by rw [hI.out, odI_yes hd (by rw [← hO2]; unfold tsT; exact hT), ← hL2, ← hO2])
        have hgd := Try.noGuard23
        have heq := fun W => zeb (P := Try.prog) W 9998 23 5 64 (pmP p f O2 m) oneP Try.underlying23 Try.underlying5 Try.size5
        rw [hT] at heq
        clear hT hI hL2 hO2 hm2 hd hLd
        go_upto_region 8 with (fail)
        have lt_B0 : (w.heap.size) < wr.heap.size := B0.lt
        have lt_B1 : (w.heap.size + 1) < wr.heap.size := B1.lt
        have hbase : w.heap.size ≤ wr.heap.size := hb.size
        refine zq Try.mixed (by kernel_rfl) (by kernel_rfl) (fun v => by (simp only [frL, Act.put, pA, pB, pC, Nat.reduceAdd, Nat.zero_add]; exact rfl))
         (fun L v W3 => Below w.heap.size w W3 ∧ wr.heap.size ≤ W3.heap.size ∧ Blk W3 (w.heap.size) 64 23 (f) ∧ Blk W3 (w.heap.size + 1) 64 23 (m) ∧ (L 0 = true → v 0 = (.int .i64 (p : Int))) ∧ (L 1 = true → v 1 = (.agg (zb 64 (f)))) ∧ (L 2 = true → v 2 = (.int .i64 (O1 : Int))) ∧ (L 3 = true → v 3 = (.int .i64 (Q : Int))) ∧ (L 4 = true → v 4 = (.int .i64 (O2 : Int))) ∧ (L 5 = true → v 5 = (.agg (zb 64 (m)))) ∧ (L 6 = true → v 6 = (.agg (zb 64 (pmP p f O2 m)))) ∧ (L 7 = true → v 7 = (.agg (zb 64 (oneP)))) ∧ (L 8 = true → v 8 = (.bool true))) ?_ ?_ ?_
        · intro v hv0
          exact ⟨hb.drew, Nat.le_refl _, B0.drew, B1.drew, (fun h => by cases h), (fun h => by cases h), (fun h => by cases h), (fun h => by cases h), (fun h => by cases h), (fun h => by cases h), (fun h => by cases h), (fun h => by cases h), (fun h => by cases h)⟩
        · refine (.cons rfl ?_ (.cons rfl ?_ (.cons rfl ?_ (.cons rfl ?_ (.cons rfl ?_ (.cons rfl ?_ (.cons rfl ?_ (.cons rfl ?_ (.cons rfl ?_ (.nil _))))))))))
          all_goals intro L v W3 hd hn ⟨hB, hz, s0, s1, h0, h1, h2, h3, h4, h5, h6, h7, h8⟩ K hK
          · go_wp2_with fail
            exact hK _ (.int .i64 (p : Int)) _ (by simp only [Act.put, pA, pB, pC ]) ⟨hB, hz, s0, s1, (fun _ => rfl), h1, h2, h3, h4, h5, h6, h7, h8⟩
          · refine zlc s0 Try.underlying23 Try.size23 ?_
            exact hK _ _ _ rfl ⟨hB, hz, s0, s1, h0, (fun _ => rfl), h2, h3, h4, h5, h6, h7, h8⟩
          · go_wp2_with fail
            exact hK _ (.int .i64 (O1 : Int)) _ (by simp only [Act.put, pA, pB, pC ]) ⟨hB, hz, s0, s1, h0, h1, (fun _ => rfl), h3, h4, h5, h6, h7, h8⟩
          · go_wp2_with fail
            exact hK _ (.int .i64 (Q : Int)) _ (by simp only [Act.put, pA, pB, pC ]) ⟨hB, hz, s0, s1, h0, h1, h2, (fun _ => rfl), h4, h5, h6, h7, h8⟩
          · have e2 := h2 (zdq hd 2 rfl)
            have e3 := h3 (zdq hd 3 rfl)
            go_wp2_with fail
            exact hK _ (.int .i64 (O2 : Int)) _ (by simp only [Act.put, pA, pB, pC, e2, e3]) ⟨hB, hz, s0, s1, h0, h1, h2, h3, (fun _ => rfl), h5, h6, h7, h8⟩
          · refine zlc s1 Try.underlying23 Try.size23 ?_
            exact hK _ _ _ rfl ⟨hB, hz, s0, s1, h0, h1, h2, h3, h4, (fun _ => rfl), h6, h7, h8⟩
          · have e0 := h0 (zdq hd 0 rfl)
            have e1 := h1 (zdq hd 1 rfl)
            have e4 := h4 (zdq hd 4 rfl)
            have e5 := h5 (zdq hd 5 rfl)
            go_wp2_with (go_at_call 97; refine (HPM2.out _).mono ?_; rintro e wy ⟨rfl, hy⟩)
            exact hK _ (.agg (zb 64 (pmP p f O2 m))) _ (by simp only [Act.put, pA, pB, pC, e0, e1, e4, e5]) ⟨hB.trans (hy.mono hB.size), (Nat.le_trans hz hy.size), s0.zw hy, s1.zw hy, h0, h1, h2, h3, h4, h5, (fun _ => rfl), h7, h8⟩
          · refine wp_build_of 23 _ rfl (zb 64 oneP) (by rw [Array.toList_map]; show Try.prog.built 23 [(0, .int .u8 1)] = some (zb 64 oneP); exact built_one) ?_
            exact hK _ _ _ rfl ⟨hB, hz, s0, s1, h0, h1, h2, h3, h4, h5, h6, (fun _ => rfl), h8⟩
          · have e6 := h6 (zdq hd 6 rfl)
            have e7 := h7 (zdq hd 7 rfl)
            go_wp2_with fail
            exact hK _ (.bool true) _ (by simp only [Act.put, pA, pB, pC, e6, e7]) ⟨hB, hz, s0, s1, h0, h1, h2, h3, h4, h5, h6, h7, (fun _ => rfl)⟩
        · intro L v W3 hL ⟨hB, hz, s0, s1, h0, h1, h2, h3, h4, h5, h6, h7, h8⟩
          have e0 := h0 (hL 0 (by decide))
          have e1 := h1 (hL 1 (by decide))
          have e2 := h2 (hL 2 (by decide))
          have e3 := h3 (hL 3 (by decide))
          have e4 := h4 (hL 4 (by decide))
          have e5 := h5 (hL 5 (by decide))
          have e6 := h6 (hL 6 (by decide))
          have e7 := h7 (hL 7 (by decide))
          have e8 := h8 (hL 8 (by decide))
          clear hL h0 h1 h2 h3 h4 h5 h6 h7 h8
          simp only [Exit.then, e0, e1, e2, e3, e4, e5, e6, e7, e8]
          clear e0 e1 e2 e3 e4 e5 e6 e7 e8
          replace B0 := s0
          clear s0
          replace B1 := s1
          clear s1
          replace hb := hB
          clear hB
          clear hbase hz lt_B0 lt_B1
          clear hgd heq HPM2
          go_wp2_with fail
          go_roundw
          case rel => exact ⟨fi, O2, L2, rfl, rfl, HI2, by omega, hL21, by omega, HLD, hO2E, hb, B0, B1⟩
          case measure => simp [intOf] <;> omega
       | false =>
        have HI2 := Lib.hid (show odI (tsT p f m) L Q L O = odI (tsT p f m) fi Q L2 O1 by rw [hI.out, odI_no hd (by rw [← hO2]; unfold tsT; exact hT), ← hL2])
        have hgd := Try.noGuard23
        have heq := fun W => zeb (P := Try.prog) W 9998 23 5 64 (pmP p f O2 m) oneP Try.underlying23 Try.underlying5 Try.size5
        rw [hT] at heq
        clear hT hI hL2 hO2 hm2 hd hLd
        go_upto_region 8 with (fail)
        have lt_B0 : (w.heap.size) < wr.heap.size := B0.lt
        have lt_B1 : (w.heap.size + 1) < wr.heap.size := B1.lt
        have hbase : w.heap.size ≤ wr.heap.size := hb.size
        refine zq Try.mixed (by kernel_rfl) (by kernel_rfl) (fun v => by (simp only [frL, Act.put, pA, pB, pC, Nat.reduceAdd, Nat.zero_add]; exact rfl))
         (fun L v W3 => Below w.heap.size w W3 ∧ wr.heap.size ≤ W3.heap.size ∧ Blk W3 (w.heap.size) 64 23 (f) ∧ Blk W3 (w.heap.size + 1) 64 23 (m) ∧ (L 0 = true → v 0 = (.int .i64 (p : Int))) ∧ (L 1 = true → v 1 = (.agg (zb 64 (f)))) ∧ (L 2 = true → v 2 = (.int .i64 (O1 : Int))) ∧ (L 3 = true → v 3 = (.int .i64 (Q : Int))) ∧ (L 4 = true → v 4 = (.int .i64 (O2 : Int))) ∧ (L 5 = true → v 5 = (.agg (zb 64 (m)))) ∧ (L 6 = true → v 6 = (.agg (zb 64 (pmP p f O2 m)))) ∧ (L 7 = true → v 7 = (.agg (zb 64 (oneP)))) ∧ (L 8 = true → v 8 = (.bool false))) ?_ ?_ ?_
        · intro v hv0
          exact ⟨hb.drew, Nat.le_refl _, B0.drew, B1.drew, (fun h => by cases h), (fun h => by cases h), (fun h => by cases h), (fun h => by cases h), (fun h => by cases h), (fun h => by cases h), (fun h => by cases h), (fun h => by cases h), (fun h => by cases h)⟩
        · refine (.cons rfl ?_ (.cons rfl ?_ (.cons rfl ?_ (.cons rfl ?_ (.cons rfl ?_ (.cons rfl ?_ (.cons rfl ?_ (.cons rfl ?_ (.cons rfl ?_ (.nil _))))))))))
          all_goals intro L v W3 hd hn ⟨hB, hz, s0, s1, h0, h1, h2, h3, h4, h5, h6, h7, h8⟩ K hK
          · go_wp2_with fail
            exact hK _ (.int .i64 (p : Int)) _ (by simp only [Act.put, pA, pB, pC ]) ⟨hB, hz, s0, s1, (fun _ => rfl), h1, h2, h3, h4, h5, h6, h7, h8⟩
          · refine zlc s0 Try.underlying23 Try.size23 ?_
            exact hK _ _ _ rfl ⟨hB, hz, s0, s1, h0, (fun _ => rfl), h2, h3, h4, h5, h6, h7, h8⟩
          · go_wp2_with fail
            exact hK _ (.int .i64 (O1 : Int)) _ (by simp only [Act.put, pA, pB, pC ]) ⟨hB, hz, s0, s1, h0, h1, (fun _ => rfl), h3, h4, h5, h6, h7, h8⟩
          · go_wp2_with fail
            exact hK _ (.int .i64 (Q : Int)) _ (by simp only [Act.put, pA, pB, pC ]) ⟨hB, hz, s0, s1, h0, h1, h2, (fun _ => rfl), h4, h5, h6, h7, h8⟩
          · have e2 := h2 (zdq hd 2 rfl)
            have e3 := h3 (zdq hd 3 rfl)
            go_wp2_with fail
            exact hK _ (.int .i64 (O2 : Int)) _ (by simp only [Act.put, pA, pB, pC, e2, e3]) ⟨hB, hz, s0, s1, h0, h1, h2, h3, (fun _ => rfl), h5, h6, h7, h8⟩
          · refine zlc s1 Try.underlying23 Try.size23 ?_
            exact hK _ _ _ rfl ⟨hB, hz, s0, s1, h0, h1, h2, h3, h4, (fun _ => rfl), h6, h7, h8⟩
          · have e0 := h0 (zdq hd 0 rfl)
            have e1 := h1 (zdq hd 1 rfl)
            have e4 := h4 (zdq hd 4 rfl)
            have e5 := h5 (zdq hd 5 rfl)
            go_wp2_with (go_at_call 97; refine (HPM2.out _).mono ?_; rintro e wy ⟨rfl, hy⟩)
            exact hK _ (.agg (zb 64 (pmP p f O2 m))) _ (by simp only [Act.put, pA, pB, pC, e0, e1, e4, e5]) ⟨hB.trans (hy.mono hB.size), (Nat.le_trans hz hy.size), s0.zw hy, s1.zw hy, h0, h1, h2, h3, h4, h5, (fun _ => rfl), h7, h8⟩
          · refine wp_build_of 23 _ rfl (zb 64 oneP) (by rw [Array.toList_map]; show Try.prog.built 23 [(0, .int .u8 1)] = some (zb 64 oneP); exact built_one) ?_
            exact hK _ _ _ rfl ⟨hB, hz, s0, s1, h0, h1, h2, h3, h4, h5, h6, (fun _ => rfl), h8⟩
          · have e6 := h6 (zdq hd 6 rfl)
            have e7 := h7 (zdq hd 7 rfl)
            go_wp2_with fail
            exact hK _ (.bool false) _ (by simp only [Act.put, pA, pB, pC, e6, e7]) ⟨hB, hz, s0, s1, h0, h1, h2, h3, h4, h5, h6, h7, (fun _ => rfl)⟩
        · intro L v W3 hL ⟨hB, hz, s0, s1, h0, h1, h2, h3, h4, h5, h6, h7, h8⟩
          have e0 := h0 (hL 0 (by decide))
          have e1 := h1 (hL 1 (by decide))
          have e2 := h2 (hL 2 (by decide))
          have e3 := h3 (hL 3 (by decide))
          have e4 := h4 (hL 4 (by decide))
          have e5 := h5 (hL 5 (by decide))
          have e6 := h6 (hL 6 (by decide))
          have e7 := h7 (hL 7 (by decide))
          have e8 := h8 (hL 8 (by decide))
          clear hL h0 h1 h2 h3 h4 h5 h6 h7 h8
          simp only [Exit.then, e0, e1, e2, e3, e4, e5, e6, e7, e8]
          clear e0 e1 e2 e3 e4 e5 e6 e7 e8
          replace B0 := s0
          clear s0
          replace B1 := s1
          clear s1
          replace hb := hB
          clear hB
          clear hbase hz lt_B0 lt_B1
          clear hgd heq HPM2
          go_wp2_with fail
          go_roundw
          case rel => exact ⟨fi, O1, L2, rfl, rfl, HI2, by omega, hL21, by omega, HLD, hO1, hb, B0, B1⟩
          case measure => simp [intOf] <;> omega
     · have hne : ((L1 % Q : Nat) : Int) ≠ 0 := by omega
       have HN := Lib.hid (show odN p f m = odO (tsT p f m) fu (Q + 1) L1 O1 by rw [hO.out, odO_step hL (by rw [hI.out, odI_stop hd])])
       have HD := Lib.hid (show ∀ d, 2 ≤ d → d < Q + 1 → ¬ d ∣ L1 from fun d d1 d2 h => by
        by_cases e : d = Q
        · subst e; exact hd (Nat.mod_eq_zero_of_dvd h)
        · exact hdv.out d d1 (by omega) (Nat.dvd_trans h hLd.out))
       clear hO hI hdv hLd hd
       go_wp2_with fail
       go_roundw
       case rel => exact ⟨fu, O1, L1, Q + 1, rfl, rfl, by go_num, HN, by have := HFU.out; omega, by omega, hL11, by omega, hO1, HD, hb, B0, B1⟩
       case measure => simp [intOf] <;> omega
  · have hl1 : L = 1 := by omega
    subst hl1
    have HV := Lib.hid (show odN p f m = O by rw [hO.out, odO_stop (by omega)])
    clear hO hdv
    go_wp2_with fail
    go_ret
    exact ⟨by rw [HV.out]; rfl, hb⟩
end Go.Proofs.Ytoncepgcfifgbaa
end
section
namespace Go.Proofs.Ytoncepgcfifgbaa
open Go Go.RowKit
set_option linter.unusedVariables false
set_option linter.unusedSimpArgs false
/-- the mark of a cell -/
def mkF (q : Nat) : Value := if q % 65 = 64 then .int .i64 (1 + (q : Int)) else .int .u8 ((1 + (q : Int)) % 256)
/-- the first q cells of a slice are marked -/
def MkF (w : World) (base : Nat) (v : Value) (n q : Nat) : Prop := ∃ ys, w.ownsRow base 100 65 v n ys ∧ ∀ k, k < q → ys[k]? = some (mkF k)
theorem MkF.len {w : World} {base n q : Nat} {v : Value} (h : MkF w base v n q) : True := trivial
theorem MkF.own {w : World} {base n q : Nat} {v : Value} (h : MkF w base v n q) : ∀ r, v.ownBlock = Option.some r → base ≤ r ∧ r < w.heap.size := by
 obtain ⟨ys, h1, _⟩ := h
 exact fun r hr => h1.lt r hr
theorem MkF.grown {w w' : World} {base n q : Nat} {v : Value} {row : Option Nat} (h : MkF w base v n q) (hg : w.grownBy w' row) (hr : v.ownBlock = none ∨ v.ownBlock ≠ row) : MkF w' base v n q := by
 obtain ⟨ys, h1, h2⟩ := h
 exact ⟨ys, h1.kept hg hr, h2⟩
theorem MkF.below {w w' : World} {base n q : Nat} {v : Value} (h : MkF w base v n q) (hb : Below w.heap.size w w') : MkF w' base v n q :=
 h.grown (row := none) ⟨hb.os, hb.tape, hb.output, hb.size, fun k hk _ => hb.block k hk⟩ (by
  cases hv : v.ownBlock with
  | none => exact .inl rfl
  | some k => exact .inr (by simp))
theorem MkF.step {w : World} {base n q g cap : Nat} (h : MkF w base (.slice (some ⟨g, 0, none⟩) n cap) n q) (hq : q < n * 65) :
 (∃ u, w.cell? ⟨g, q, none⟩ = Option.some u) ∧ w.frozen? ⟨g, q, none⟩ = false ∧ MkF (w.setCell ⟨g, q, none⟩ (mkF q)) base (.slice (some ⟨g, 0, none⟩) n cap) n (q + 1) ∧ w.grownBy (w.setCell ⟨g, q, none⟩ (mkF q)) (Option.some g) := by
 obtain ⟨ys, h1, h2⟩ := h
 have hl : q < ys.length := by rw [h1.1]; exact hq
 obtain ⟨s1, s2⟩ := h1.stored q (mkF q)
 refine ⟨⟨ys[q], by rw [h1.cellAt q hq]; exact List.getElem?_eq_getElem hl⟩, h1.frozenAt q, ⟨_, s1, fun k hk => ?_⟩, s2⟩
 rw [List.getElem?_set]
 by_cases e : q = k
 · subst e; rw [if_pos rfl, if_pos hl]
 · rw [if_neg e]; exact h2 k (by omega)
theorem MkF.cell {w : World} {base n q g cap k : Nat} (h : MkF w base (.slice (some ⟨g, 0, none⟩) n cap) n q) (hk : k < q) (hq : q ≤ n * 65) : w.cell? ⟨g, k, none⟩ = Option.some (mkF k) := by
 obtain ⟨ys, h1, h2⟩ := h
 rw [h1.cellAt k (by omega)]
 exact h2 k hk
theorem MkF.same {w : World} {base n q : Nat} {v : Value} (h : MkF w base v n q) (r : Nat) (e : r = q) : MkF w base v n r := e ▸ h
theorem grown_trans {w w1 w2 : World} {row : Option Nat} (h1 : w.grownBy w1 row) (h2 : w1.grownBy w2 row) : w.grownBy w2 row :=
 ⟨h2.os.trans h1.os, h2.tape.trans h1.tape, h2.output.trans h1.output, Nat.le_trans h1.size h2.size, fun k hk hr => (h2.block k (Nat.lt_of_lt_of_le hk h1.size) hr).trans (h1.block k hk hr)⟩
theorem grown_refl (w : World) (row : Option Nat) : w.grownBy w row := ⟨rfl, rfl, rfl, Nat.le_refl _, fun _ _ _ => rfl⟩
theorem slL_apart {w w' : World} {base size : Nat} {e : TypeId} {v : Value} {cs : List (List Value)} {row : Option Nat} (h : SlL w base e size v cs) (hg : w.grownBy w' row) (hr : v.ownBlock = none ∨ v.ownBlock ≠ row) : SlL w' base e size v cs := by
 delta SlL at *
 exact ⟨Nat.le_trans h.1 hg.size, h.2.1, h.2.2.kept hg hr⟩
attribute [local irreducible] mkF MkF
end Go.Proofs.Ytoncepgcfifgbaa
namespace Go.Proofs.Ytoncepgcfifgbaa
open Go Go.RowKit
set_option linter.unusedVariables false
set_option linter.unusedSimpArgs false
/-- the rows of polynomials -/
def plR (L : List (Nat → Nat)) : List (List Value) := L.map fun f => bl 64 f
theorem plR_snoc (L : List (Nat → Nat)) (x : Nat → Nat) : plR (L ++ [x]) = plR L ++ [bl 64 x] := by simp [plR]
theorem plR_len (L : List (Nat → Nat)) : (plR L).length = L.length := by simp [plR]
theorem plR_nil : plR [] = [] := rfl
attribute [irreducible] plR
/-- the mark of a cell -/
def mkP (q : Nat) : Value := .int .u8 ((1 + (q : Int)) % 256)
/-- the first q cells of a slice are marked -/
def MkP (w : World) (base : Nat) (v : Value) (n q : Nat) : Prop := ∃ ys, w.ownsRow base 23 64 v n ys ∧ ∀ k, k < q → ys[k]? = some (mkP k)
theorem mkP_some {w : World} {base n q cap : Nat} {a : Option Addr} (h : MkP w base (.slice a n cap) n q) (hn : 0 < n) : ∃ g, a = some ⟨g, 0, none⟩ := by
 obtain ⟨ys, h1, _⟩ := h
 rcases h1.2 with ⟨h2, h3⟩ | ⟨g, c, cur, h2, _⟩
 · omega
 · injection h2 with h2; exact ⟨g, h2⟩
theorem MkP.len {w : World} {base n q : Nat} {v : Value} (h : MkP w base v n q) : True := trivial
theorem SlL.marksP {w : World} {base n : Nat} {v : Value} {cs : List (List Value)} (h : SlL w base 23 64 v cs) (hn : cs.length = n) : MkP w base v n 0 := by
 delta SlL at h
 exact ⟨cs.flatten, hn ▸ h.2.2, fun k hk => absurd hk (by omega)⟩
theorem MkP.own {w : World} {base n q : Nat} {v : Value} (h : MkP w base v n q) : ∀ r, v.ownBlock = Option.some r → base ≤ r ∧ r < w.heap.size := by
 obtain ⟨ys, h1, _⟩ := h
 exact fun r hr => h1.lt r hr
theorem MkP.grown {w w' : World} {base n q : Nat} {v : Value} {row : Option Nat} (h : MkP w base v n q) (hg : w.grownBy w' row) (hr : v.ownBlock = none ∨ v.ownBlock ≠ row) : MkP w' base v n q := by
 obtain ⟨ys, h1, h2⟩ := h
 exact ⟨ys, h1.kept hg hr, h2⟩
theorem MkP.below {w w' : World} {base n q : Nat} {v : Value} (h : MkP w base v n q) (hb : Below w.heap.size w w') : MkP w' base v n q :=
 h.grown (row := none) ⟨hb.os, hb.tape, hb.output, hb.size, fun k hk _ => hb.block k hk⟩ (by
  cases hv : v.ownBlock with
  | none => exact .inl rfl
  | some k => exact .inr (by simp))
theorem MkP.step {w : World} {base n q g cap : Nat} (h : MkP w base (.slice (some ⟨g, 0, none⟩) n cap) n q) (hq : q < n * 64) :
 (∃ u, w.cell? ⟨g, q, none⟩ = Option.some u) ∧ w.frozen? ⟨g, q, none⟩ = false ∧ MkP (w.setCell ⟨g, q, none⟩ (mkP q)) base (.slice (some ⟨g, 0, none⟩) n cap) n (q + 1) ∧ w.grownBy (w.setCell ⟨g, q, none⟩ (mkP q)) (Option.some g) := by
 obtain ⟨ys, h1, h2⟩ := h
 have hl : q < ys.length := by rw [h1.1]; exact hq
 obtain ⟨s1, s2⟩ := h1.stored q (mkP q)
 refine ⟨⟨ys[q], by rw [h1.cellAt q hq]; exact List.getElem?_eq_getElem hl⟩, h1.frozenAt q, ⟨_, s1, fun k hk => ?_⟩, s2⟩
 rw [List.getElem?_set]
 by_cases e : q = k
 · subst e; rw [if_pos rfl, if_pos hl]
 · rw [if_neg e]; exact h2 k (by omega)
theorem MkP.cell {w : World} {base n q g cap k : Nat} (h : MkP w base (.slice (some ⟨g, 0, none⟩) n cap) n q) (hk : k < q) (hq : q ≤ n * 64) : w.cell? ⟨g, k, none⟩ = Option.some (mkP k) := by
 obtain ⟨ys, h1, h2⟩ := h
 rw [h1.cellAt k (by omega)]
 exact h2 k hk
theorem MkP.same {w : World} {base n q : Nat} {v : Value} (h : MkP w base v n q) (r : Nat) (e : r = q) : MkP w base v n r := e ▸ h
attribute [local irreducible] mkP MkP
set_option maxRecDepth 100000 in
set_option maxHeartbeats 3200000 in
theorem eqPolyS_same (R : List (Nat → Nat)) (a1 a2 : Option Addr) (cap1 cap2 base1 base2 : Nat) (w : World) (h1 : SlL w base1 23 64 (.slice a1 R.length cap1) (plR R)) (h2 : SlL w base2 23 64 (.slice a2 R.length cap2) (plR R)) (hR : R.length ≤ 1000) :
 Calls Try.prog 35 #[.slice a1 R.length cap1, .slice a2 R.length cap2] w fun e w' => e = .returned (.bool true) ∧ Below w.heap.size w w' := by
 go_enter Try.func35, Try.ntmps35
 go_wp2_with fail
 go_loopw [5] (fun i wr => ∃ j : Nat, i = .int .i64 (j : Int) ∧ j ≤ R.length ∧ Below w.heap.size w wr) (fun i _ => R.length - (intOf i).toNat)
 case atStart => exact ⟨0, rfl, Nat.zero_le _, Below.refl _ _⟩
 case round =>
  obtain ⟨j, rfl, hjR, hb⟩ := hrel
  by_cases hj : j < R.length
  · obtain ⟨x, hx⟩ : ∃ x, R[j]? = some x := ⟨_, List.getElem?_eq_getElem hj⟩
    obtain ⟨g1, rfl⟩ := h1.some (by rw [plR_len]; omega)
    obtain ⟨g2, rfl⟩ := h2.some (by rw [plR_len]; omega)
    have hrow : (plR R)[j]? = some (bl 64 x) := by unfold plR; rw [List.getElem?_map, hx]; rfl
    have B0 : SlL wr base1 23 64 (.slice (some ⟨g1, 0, none⟩) R.length cap1) (plR R) := h1.zw hb
    have B1 : SlL wr base2 23 64 (.slice (some ⟨g2, 0, none⟩) R.length cap2) (plR R) := h2.zw hb
    have hjl : (j : Int) < (R.length : Int) := by omega
    clear h1 h2
    go_upto_region 6 with (fail)
    have lt_B0 : (base1) ≤ wr.heap.size := B0.lt
    have lt_B1 : (base2) ≤ wr.heap.size := B1.lt
    have hbase : w.heap.size ≤ wr.heap.size := hb.size
    refine zq Try.mixed (by kernel_rfl) (by kernel_rfl) (fun v => by (simp only [frL, Act.put, pA, pB, pC, Nat.reduceAdd, Nat.zero_add]; exact rfl))
     (fun L v W1 => Below w.heap.size w W1 ∧ wr.heap.size ≤ W1.heap.size ∧ SlL W1 base1 23 64 (.slice (some ⟨g1, 0, none⟩) R.length cap1) (plR R) ∧ SlL W1 base2 23 64 (.slice (some ⟨g2, 0, none⟩) R.length cap2) (plR R) ∧ (L 0 = true → v 0 = (.slice (some ⟨g1, 0, none⟩) R.length cap1)) ∧ (L 1 = true → v 1 = (.int .i64 (j : Int))) ∧ (L 2 = true → v 2 = (.pointer (some ⟨g1, j * 64, none⟩))) ∧ (L 3 = true → v 3 = (.agg (bl 64 x).toArray)) ∧ (L 4 = true → v 4 = (.slice (some ⟨g2, 0, none⟩) R.length cap2)) ∧ (L 5 = true → v 5 = (.int .i64 (j : Int))) ∧ (L 6 = true → v 6 = (.pointer (some ⟨g2, j * 64, none⟩))) ∧ (L 7 = true → v 7 = (.agg (bl 64 x).toArray)) ∧ (L 8 = true → v 8 = (.bool true)) ∧ (L 9 = true → v 9 = (.bool false))) ?_ ?_ ?_
    · intro v hv0
      exact ⟨hb.drew, Nat.le_refl _, B0.drew, B1.drew, (fun h => by cases h), (fun h => by cases h), (fun h => by cases h), (fun h => by cases h), (fun h => by cases h), (fun h => by cases h), (fun h => by cases h), (fun h => by cases h), (fun h => by cases h), (fun h => by cases h)⟩
    · refine (.cons rfl ?_ (.cons rfl ?_ (.cons rfl ?_ (.cons rfl ?_ (.cons rfl ?_ (.cons rfl ?_ (.cons rfl ?_ (.cons rfl ?_ (.cons rfl ?_ (.cons rfl ?_ (.nil _)))))))))))
      all_goals intro L v W1 hd hn ⟨hB, hz, s0, s1, h0, h1, h2, h3, h4, h5, h6, h7, h8, h9⟩ K hK
      · go_wp2_with fail
        exact hK _ (.slice (some ⟨g1, 0, none⟩) R.length cap1) _ (by simp only [Act.put, pA, pB, pC ]) ⟨hB, hz, s0, s1, (fun _ => rfl), h1, h2, h3, h4, h5, h6, h7, h8, h9⟩
      · go_wp2_with fail
        exact hK _ (.int .i64 (j : Int)) _ (by simp only [Act.put, pA, pB, pC ]) ⟨hB, hz, s0, s1, h0, (fun _ => rfl), h2, h3, h4, h5, h6, h7, h8, h9⟩
      · have e0 := h0 (zdq hd 0 rfl)
        have e1 := h1 (zdq hd 1 rfl)
        go_wp2_with fail
        exact hK _ (.pointer (some ⟨g1, j * 64, none⟩)) _ (by simp only [Act.put, pA, pB, pC, e0, e1]) ⟨hB, hz, s0, s1, h0, h1, (fun _ => rfl), h3, h4, h5, h6, h7, h8, h9⟩
      · have e2 := h2 (zdq hd 2 rfl)
        have hr := (s0).range hrow
        refine wp_load_mid 23 _ rfl _ (j * 64) e2 _ _ hr Try.underlying23 rfl (by rw [zl]; exact Try.size23) ?_
        exact hK _ _ _ rfl ⟨hB, hz, s0, s1, h0, h1, h2, (fun _ => rfl), h4, h5, h6, h7, h8, h9⟩
      · go_wp2_with fail
        exact hK _ (.slice (some ⟨g2, 0, none⟩) R.length cap2) _ (by simp only [Act.put, pA, pB, pC ]) ⟨hB, hz, s0, s1, h0, h1, h2, h3, (fun _ => rfl), h5, h6, h7, h8, h9⟩
      · go_wp2_with fail
        exact hK _ (.int .i64 (j : Int)) _ (by simp only [Act.put, pA, pB, pC ]) ⟨hB, hz, s0, s1, h0, h1, h2, h3, h4, (fun _ => rfl), h6, h7, h8, h9⟩
      · have e4 := h4 (zdq hd 4 rfl)
        have e5 := h5 (zdq hd 5 rfl)
        go_wp2_with fail
        exact hK _ (.pointer (some ⟨g2, j * 64, none⟩)) _ (by simp only [Act.put, pA, pB, pC, e4, e5]) ⟨hB, hz, s0, s1, h0, h1, h2, h3, h4, h5, (fun _ => rfl), h7, h8, h9⟩
      · have e6 := h6 (zdq hd 6 rfl)
        have hr := (s1).range hrow
        refine wp_load_mid 23 _ rfl _ (j * 64) e6 _ _ hr Try.underlying23 rfl (by rw [zl]; exact Try.size23) ?_
        exact hK _ _ _ rfl ⟨hB, hz, s0, s1, h0, h1, h2, h3, h4, h5, h6, (fun _ => rfl), h8, h9⟩
      · have e3 := h3 (zdq hd 3 rfl)
        have e7 := h7 (zdq hd 7 rfl)
        go_wp2_with (go_at_call 28; refine (eqPoly_same x x (fun _ _ => rfl) _).mono ?_; rintro e wy ⟨rfl, hy⟩)
        exact hK _ (.bool true) _ (by simp only [Act.put, pA, pB, pC, e3, e7]) ⟨hB.trans (hy.mono hB.size), (Nat.le_trans hz hy.size), s0.zw hy, s1.zw hy, h0, h1, h2, h3, h4, h5, h6, h7, (fun _ => rfl), h9⟩
      · have e8 := h8 (zdq hd 8 rfl)
        go_wp2_with fail
        exact hK _ (.bool false) _ (by simp only [Act.put, pA, pB, pC, e8]) ⟨hB, hz, s0, s1, h0, h1, h2, h3, h4, h5, h6, h7, h8, (fun _ => rfl)⟩
    · intro L v W1 hL ⟨hB, hz, s0, s1, h0, h1, h2, h3, h4, h5, h6, h7, h8, h9⟩
      have e0 := h0 (hL 0 (by decide))
      have e1 := h1 (hL 1 (by decide))
      have e2 := h2 (hL 2 (by decide))
      have e3 := h3 (hL 3 (by decide))
      have e4 := h4 (hL 4 (by decide))
      have e5 := h5 (hL 5 (by decide))
      have e6 := h6 (hL 6 (by decide))
      have e7 := h7 (hL 7 (by decide))
      have e8 := h8 (hL 8 (by decide))
      have e9 := h9 (hL 9 (by decide))
      clear hL h0 h1 h2 h3 h4 h5 h6 h7 h8 h9
      simp only [Exit.then, e0, e1, e2, e3, e4, e5, e6, e7, e8, e9]
      clear e0 e1 e2 e3 e4 e5 e6 e7 e8 e9
      replace B0 := s0
      clear s0
      replace B1 := s1
      clear s1
      replace hb := hB
      clear hB
      clear hbase hz lt_B0 lt_B1
      go_wp2_with fail
      go_roundw
      case rel => exact ⟨j + 1, by go_num, by omega, hb⟩
      case measure => simp [intOf] <;> omega
  · have hjl : ¬ (j : Int) < (R.length : Int) := by omega
    go_wp2_with fail
    go_ret
    exact ⟨rfl, hb⟩
set_option maxRecDepth 100000 in
set_option maxHeartbeats 3200000 in
theorem markPolyS_any (n : Nat) (a0 : Option Addr) (cap base : Nat) (w : World) (h : MkP w base (.slice a0 n cap) n 0) (hn : n ≤ 1000) :
 Calls Try.prog 36 #[.slice a0 n cap, .int .i64 1] w fun e w' => e = .returned (.int .i64 ((1 + 64 * n : Nat) : Int)) ∧ MkP w' base (.slice a0 n cap) n (64 * n) ∧ w.grownBy w' (Value.slice a0 n cap).ownBlock := by
 go_enter Try.func36, Try.ntmps36
 go_wp2_with fail
 go_loopw [1, 5] (fun x i wr => ∃ j X : Nat, x = .int .i64 (X : Int) ∧ X = 1 + 64 * j ∧ i = .int .i64 (j : Int) ∧ j ≤ n ∧ MkP wr base (.slice a0 n cap) n (64 * j) ∧ w.grownBy wr (Value.slice a0 n cap).ownBlock) (fun _ i _ => n - (intOf i).toNat)
 case atStart => exact ⟨0, 1, rfl, rfl, rfl, Nat.zero_le _, h, grown_refl _ _⟩
 case round =>
  clear h; obtain ⟨j, X, rfl, hX, rfl, hjn, hM, hG⟩ := hrel
  by_cases hj : j < n
  · have hjl : (j : Int) < (n : Int) := by omega
    obtain ⟨g, rfl⟩ := mkP_some hM (by omega)
    have hX2 : X ≤ 64001 := by omega
    have HX := Lib.hid hX
    clear hX
    go_wp2_with fail
    go_loopw [1, 6] (fun x i wr2 => ∃ k X : Nat, x = .int .i64 (X : Int) ∧ X = 1 + 64 * j + k ∧ i = .int .i64 (k : Int) ∧ k ≤ 64 ∧ MkP wr2 base (.slice (some ⟨g, 0, none⟩) n cap) n (64 * j + k) ∧ w.grownBy wr2 (some g)) (fun _ i _ => 64 - (intOf i).toNat)
    case atStart => exact ⟨0, X, rfl, by have := HX.out; omega, rfl, by omega, hM, hG⟩
    case round =>
     clear hM hG HX; obtain ⟨k, X, rfl, hX, rfl, hk, hM, hG⟩ := hrel
     have hX2 : X ≤ 64065 := by omega
     have HX := Lib.hid hX
     clear hX
     have HQ := Lib.hid (show j * 64 + k = 64 * j + k by omega)
     by_cases hlt : k < 64
     · have e1 : mkP (64 * j + k) = .int .u8 ((X : Int) % 256) := by
        unfold mkP; rw [show (1 + ((64 * j + k : Nat) : Int)) = (X : Int) by have := HX.out; omega]
       obtain ⟨⟨u, hc⟩, hz, hM2, hG2⟩ := hM.step (by omega)
       rw [e1, ← HQ.out] at hM2 hG2
       rw [← HQ.out] at hc hz
       have HM2 := Lib.hid hM2
       have HG2 := Lib.hid (grown_trans hG hG2)
       clear hM2 hG2 hM hG e1
       go_wp2_with fail
       go_roundw
       case rel => exact ⟨k + 1, X + 1, by go_num, by have := HX.out; omega, by go_num, by omega, HM2.out.same _ (by omega), HG2.out⟩
       case measure => simp [intOf] <;> omega
     · have e : k = 64 := by omega
       subst e
       have HM2 := Lib.hid (hM.same (64 * (j + 1)) (by omega))
       have HG2 := Lib.hid hG
       clear hM hG
       go_wp2_with fail
       go_roundw
       case rel => exact ⟨j + 1, X, rfl, by have := HX.out; omega, by go_num, by omega, HM2.out, HG2.out⟩
       case measure => simp [intOf] <;> omega
  · have hjl : ¬ (j : Int) < (n : Int) := by omega
    have e : j = n := by omega
    subst e
    go_wp2_with fail
    go_ret
    exact ⟨ret_int (by push_cast; rfl), hM, hG⟩
set_option maxRecDepth 100000 in
set_option maxHeartbeats 3200000 in
theorem heldPolyS_any (n : Nat) (a0 : Option Addr) (cap base : Nat) (w : World) (h : MkP w base (.slice a0 n cap) n (64 * n)) (hn : n ≤ 1000) :
 Calls Try.prog 37 #[.slice a0 n cap, .int .i64 1] w fun e w' => e = .returned (.int .i64 ((1 + 64 * n : Nat) : Int)) ∧ w = w' := by
 go_enter Try.func37, Try.ntmps37
 go_wp2_with fail
 go_loopw [1, 5] (fun x i wr => ∃ j X : Nat, x = .int .i64 (X : Int) ∧ X = 1 + 64 * j ∧ i = .int .i64 (j : Int) ∧ j ≤ n ∧ wr = w) (fun _ i _ => n - (intOf i).toNat)
 case atStart => exact ⟨0, 1, rfl, rfl, rfl, Nat.zero_le _, rfl⟩
 case round =>
  obtain ⟨j, X, rfl, hX, rfl, hjn, rfl⟩ := hrel
  by_cases hj : j < n
  · have hjl : (j : Int) < (n : Int) := by omega
    obtain ⟨g, rfl⟩ := mkP_some h (by omega)
    have hX2 : X ≤ 64001 := by omega
    have HX := Lib.hid hX
    clear hX
    go_wp2_with fail
    go_loopw [1, 6] (fun x i wr2 => ∃ k X : Nat, x = .int .i64 (X : Int) ∧ X = 1 + 64 * j + k ∧ i = .int .i64 (k : Int) ∧ k ≤ 64 ∧ wr2 = wr) (fun _ i _ => 64 - (intOf i).toNat)
    case atStart => exact ⟨0, X, rfl, by have := HX.out; omega, rfl, by omega, rfl⟩
    case round =>
     clear HX; obtain ⟨k, X, rfl, hX, rfl, hk, rfl⟩ := hrel
     have hX2 : X ≤ 64065 := by omega
     have HX := Lib.hid hX
     clear hX
     have HQ := Lib.hid (show j * 64 + k = 64 * j + k by omega)
     by_cases hlt : k < 64
     · have e1 : mkP (64 * j + k) = .int .u8 ((X : Int) % 256) := by
        unfold mkP; rw [show (1 + ((64 * j + k : Nat) : Int)) = (X : Int) by have := HX.out; omega]
       have hc := MkP.cell h (k := 64 * j + k) (by omega) (by omega)
       rw [e1, ← HQ.out] at hc
       have hne : (((X : Int) % 256) != ((X : Int) % 256)) = false := by simp
       clear e1
       go_wp2_with fail
       go_roundw
       case rel => exact ⟨k + 1, X + 1, by go_num, by have := HX.out; omega, by go_num, by omega, trivial⟩
       case measure => simp [intOf] <;> omega
     · have e : k = 64 := by omega
       subst e
       go_wp2_with fail
       go_roundw
       case rel => exact ⟨j + 1, X, rfl, by have := HX.out; omega, by go_num, by omega, trivial⟩
       case measure => simp [intOf] <;> omega
  · have hjl : ¬ (j : Int) < (n : Int) := by omega
    have e : j = n := by omega
    subst e
    go_wp2_with fail
    go_ret
    exact ⟨ret_int (by push_cast; rfl), rfl⟩
end Go.Proofs.Ytoncepgcfifgbaa
end
