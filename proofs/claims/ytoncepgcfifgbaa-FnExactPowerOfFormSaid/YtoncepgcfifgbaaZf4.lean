/-
  What the rows of this claim rest on: arrays of bytes, walks of the functions, plain mathematics.
-/
import Derived.Test.YtoncepgcfifgbaaZf3
section
namespace Go.Proofs.Ytoncepgcfifgbaa
open Go Go.RowKit
set_option linter.unusedVariables false
set_option linter.unusedSimpArgs false
attribute [local irreducible] deg invN quoP resP prd bzD bzU bzW sqP ngP mkP
theorem callsBelow {fn : FuncId} {args : Array Value} {w : World} {v : Ending} (h : Calls Try.prog fn args w fun e w' => e = v ∧ w = w') : Calls Try.prog fn args w fun e w' => e = v ∧ Below w.heap.size w w' := h.mono (by rintro e w' ⟨rfl, rfl⟩; exact ⟨rfl, Below.refl _ _⟩)
theorem sqP_def (p : Nat) (D B : Nat → Nat) : sqP p D B = fun i => (D i + p - prd p B B i) % p := by unfold sqP subP; rfl
theorem ngP_def (p : Nat) (B : Nat → Nat) : ngP p B = fun i => (0 + p - B i) % p := by unfold ngP subP; rfl
theorem ngP_lt {p : Nat} {B : Nat → Nat} (hp : 0 < p) (k : Nat) : ngP p B k < p := by unfold ngP; exact subP_lt hp k
theorem sqP_ltI {p : Nat} {D B : Nat → Nat} (hp : 0 < p) (k : Nat) : sqP p D B k < p := sqP_lt hp k
set_option maxRecDepth 100000 in
set_option maxHeartbeats 3200000 in
theorem lessSquare_any (p : Nat) (D B : Nat → Nat) (w : World) (p2 : 2 ≤ p) (p7 : p ≤ 7) (lD : ∀ k, k < 64 → D k < p) (lB : ∀ k, k < 64 → B k < p) :
 Calls Try.prog 164 #[.agg (fdC (p : Int) D).toArray, .agg (zb 64 B)] w fun e w' => e = .returned (.agg (zb 64 (sqP p D B))) ∧ Below w.heap.size w w' := by
 have HPR := Lib.hid (fun W => product_any p B B W p2 p7 lB lB)
 have HDF := Lib.hid (show ∀ W, Calls Try.prog 158 #[.int .i64 (p : Int), .agg (zb 64 D), .agg (zb 64 (prd p B B))] W fun e w' => e = .returned (.agg (zb 64 (sqP p D B))) ∧ Below W.heap.size W w' from fun W => by
  have := difference_any p D (prd p B B) W p2 p7 lD (fun i _ => prd_lt (by omega) i)
  rw [← sqP_def] at this; exact this)
 go_enter Try.func164, Try.ntmps164
 go_upto_region 1 with (fail)
 rw [← z64]
 obtain ⟨W1, hwo⟩ : ∃ v : World, v = (((w.alloc (.cells (fdC (p : Int) D).toArray 107)).alloc (.cells (zb 64 (B)) 23)).alloc (.cells (zb 64 (fun _ => 0)) 23)) := ⟨_, rfl⟩
 have B0 : Row W1 (w.heap.size) 107 (fdC (p : Int) D).toArray := by subst hwo; have := (((Row.new w 107 (fdC (p : Int) D).toArray).alloc (.cells (zb 64 (B)) 23)).alloc (.cells (zb 64 (fun _ => 0)) 23)); simpa using this
 have B1 : Blk W1 (w.heap.size + 1) 64 23 (B) := by subst hwo; have := ((Blk.new (w.alloc (.cells (fdC (p : Int) D).toArray 107)) 64 23 (B)).alloc (.cells (zb 64 (fun _ => 0)) 23)); simpa using this
 have B2 : Blk W1 (w.heap.size + 1 + 1) 64 23 (fun _ => 0) := by subst hwo; have := (Blk.new ((w.alloc (.cells (fdC (p : Int) D).toArray 107)).alloc (.cells (zb 64 (B)) 23)) 64 23 (fun _ => 0)); simpa using this
 have hb : Below w.heap.size w W1 := by subst hwo; exact ((((Below.refl _ _).alloc (Nat.le_refl _) _).alloc (by simp) _).alloc (by simp; omega) _)
 rw [← hwo]
 clear hwo
 have lt_B0 : (w.heap.size) < W1.heap.size := B0.lt
 have lt_B1 : (w.heap.size + 1) < W1.heap.size := B1.lt
 have lt_B2 : (w.heap.size + 1 + 1) < W1.heap.size := B2.lt
 have hbase : w.heap.size ≤ W1.heap.size := hb.size
 refine zq Try.mixed (by kernel_rfl) (by kernel_rfl) (fun v => by (simp only [frL, Act.put, pA, pB, pC, Nat.reduceAdd, Nat.zero_add]; exact rfl))
  (fun L v W2 => Below w.heap.size w W2 ∧ Kx [w.heap.size + 1 + 1] W1 W2 ∧ (∃ g, Blk W2 (w.heap.size + 1 + 1) 64 23 (g)) ∧ (L 10 = false → Blk W2 (w.heap.size + 1 + 1) 64 23 (fun _ => 0)) ∧ (L 10 = true → Blk W2 (w.heap.size + 1 + 1) 64 23 (sqP p D B)) ∧ VF L v [some (.pointer (some ⟨w.heap.size, 0, none⟩)), some (.int .i64 (p : Int)), some (.pointer (some ⟨w.heap.size, 1, none⟩)), some (.agg (zb 64 (D))), some (.pointer (some ⟨w.heap.size, 0, none⟩)), some (.int .i64 (p : Int)), some (.agg (zb 64 (B))), some (.agg (zb 64 (B))), some (.agg (zb 64 (prd p B B))), some (.agg (zb 64 (sqP p D B))), none]) ?_ ?_ ?_
 · intro v hv0
   exact ⟨hb.drew, Kx.start _ _, ⟨_, B2.drew⟩, (fun _ => B2.drew), (fun h => by cases h), VF.start⟩
 · refine (.cons rfl ?_ (.cons rfl ?_ (.cons rfl ?_ (.cons rfl ?_ (.cons rfl ?_ (.cons rfl ?_ (.cons rfl ?_ (.cons rfl ?_ (.cons rfl ?_ (.cons rfl ?_ (.cons rfl ?_ (.nil _))))))))))))
   all_goals intro L v W2 hd hn ⟨hB, hX, x2, q2, n2, V⟩ K hK
   · go_wp2_with fail
     exact hK _ (.pointer (some ⟨w.heap.size, 0, none⟩)) _ (by simp only [Act.put, pA, pB, pC ]) ⟨hB, hX, x2, q2, n2, V.step 0 rfl⟩
   · have e0 := V.at (zdq hd 0 rfl) rfl
     refine wp_load_rowc 2 _ rfl _ 0 e0 107 _ (B0.kx hX (by simp <;> omega)) (.int .i64 (p : Int)) (fdC_at _ _) _ Try.underlying2 rfl ?_
     exact hK _ _ _ rfl ⟨hB, hX, x2, q2, n2, V.step 1 rfl⟩
   · go_wp2_with fail
     exact hK _ (.pointer (some ⟨w.heap.size, 1, none⟩)) _ (by simp only [Act.put, pA, pB, pC ]) ⟨hB, hX, x2, q2, n2, V.step 2 rfl⟩
   · have e2 := V.at (zdq hd 2 rfl) rfl
     refine wp_load_mid 23 _ rfl _ 1 e2 _ _ ((B0.kx hX (by simp <;> omega)).fd) Try.underlying23 rfl (by rw [zl]; exact Try.size23) ?_
     exact hK _ _ _ rfl ⟨hB, hX, x2, q2, n2, V.step 3 rfl⟩
   · go_wp2_with fail
     exact hK _ (.pointer (some ⟨w.heap.size, 0, none⟩)) _ (by simp only [Act.put, pA, pB, pC ]) ⟨hB, hX, x2, q2, n2, V.step 4 rfl⟩
   · have e4 := V.at (zdq hd 4 rfl) rfl
     refine wp_load_rowc 2 _ rfl _ 0 e4 107 _ (B0.kx hX (by simp <;> omega)) (.int .i64 (p : Int)) (fdC_at _ _) _ Try.underlying2 rfl ?_
     exact hK _ _ _ rfl ⟨hB, hX, x2, q2, n2, V.step 5 rfl⟩
   · refine wp_load_any 23 _ rfl _ rfl 64 23 _ (B1.kx hX (by simp <;> omega)) _ Try.underlying23 rfl Try.size23 ?_
     exact hK _ _ _ rfl ⟨hB, hX, x2, q2, n2, V.step 6 rfl⟩
   · refine wp_load_any 23 _ rfl _ rfl 64 23 _ (B1.kx hX (by simp <;> omega)) _ Try.underlying23 rfl Try.size23 ?_
     exact hK _ _ _ rfl ⟨hB, hX, x2, q2, n2, V.step 7 rfl⟩
   · have e5 := V.at (zdq hd 5 rfl) rfl
     have e6 := V.at (zdq hd 6 rfl) rfl
     have e7 := V.at (zdq hd 7 rfl) rfl
     go_wp2_with (go_at_call 94; refine (HPR.out _).mono ?_; rintro e wy ⟨rfl, hy⟩)
     exact hK _ (.agg (zb 64 (prd p B B))) _ (by simp only [Act.put, pA, pB, pC, e5, e6, e7]) ⟨hB.trans (hy.mono hB.size), hX.below hy, (let ⟨g, h⟩ := x2; ⟨g, h.zw hy⟩), (fun h => (q2 h).below hy (q2 h).lt), (fun h => (n2 h).below hy (n2 h).lt), V.step 8 rfl⟩
   · have e1 := V.at (zdq hd 1 rfl) rfl
     have e3 := V.at (zdq hd 3 rfl) rfl
     have e8 := V.at (zdq hd 8 rfl) rfl
     go_wp2_with (go_at_call 158; refine (HDF.out _).mono ?_; rintro e wy ⟨rfl, hy⟩)
     exact hK _ (.agg (zb 64 (sqP p D B))) _ (by simp only [Act.put, pA, pB, pC, e1, e3, e8]) ⟨hB.trans (hy.mono hB.size), hX.below hy, (let ⟨g, h⟩ := x2; ⟨g, h.zw hy⟩), (fun h => (q2 h).below hy (q2 h).lt), (fun h => (n2 h).below hy (n2 h).lt), V.step 9 rfl⟩
   · have e9 := V.at (zdq hd 9 rfl) rfl
     obtain ⟨gz, hk⟩ := x2
     refine zsb 23 _ _ rfl _ 64 (sqP p D B) rfl e9 23 gz hk Try.size23 ?_
     exact hK _ undef _ rfl ⟨zr hB (by omega) _, hX.row (by simp) _, ⟨_, hk.row _⟩, (fun h => absurd h (by simp [setL])), (fun _ => hk.row _), V.skip 10 rfl⟩
 · intro L v W2 hL ⟨hB, hX, x2, q2, n2, V⟩
   have r2 := n2 (hL 10 (by decide))
   have e0 := V.at (hL 0 (by decide)) rfl
   have e1 := V.at (hL 1 (by decide)) rfl
   have e2 := V.at (hL 2 (by decide)) rfl
   have e3 := V.at (hL 3 (by decide)) rfl
   have e4 := V.at (hL 4 (by decide)) rfl
   have e5 := V.at (hL 5 (by decide)) rfl
   have e6 := V.at (hL 6 (by decide)) rfl
   have e7 := V.at (hL 7 (by decide)) rfl
   have e8 := V.at (hL 8 (by decide)) rfl
   have e9 := V.at (hL 9 (by decide)) rfl
   clear hL x2 q2 n2 V
   replace B0 := B0.kx hX (by simp <;> omega)
   replace B1 := B1.kx hX (by simp <;> omega)
   clear hX
   simp only [Exit.then, e0, e1, e2, e3, e4, e5, e6, e7, e8, e9]
   clear e0 e1 e2 e3 e4 e5 e6 e7 e8 e9
   replace B2 := r2
   clear r2
   replace hb := hB
   clear hB
   clear hbase lt_B0 lt_B1 lt_B2
   go_wp2_with fail
   refine bodyPost_ret (zrb rfl _ _ _ 64 23 5 _ rfl B2 Try.underlying23 Try.size23) rfl ⟨rfl, hb⟩
set_option maxRecDepth 100000 in
set_option maxHeartbeats 3200000 in
theorem l07Square_any (p : Nat) (D B : Nat → Nat) (w : World) (p2 : 2 ≤ p) (p7 : p ≤ 7) (lD : ∀ k, k < 64 → D k < p) (lB : ∀ k, k < 64 → B k < p) (hB : deg B + deg B ≤ 63) :
 Calls Try.prog 163 #[.int .i64 (p : Int), .agg (zb 64 D), .agg (zb 64 B)] w fun e w' => e = .returned (.agg (zb 64 (addK p (prd p B B) D (-1)))) ∧ Below w.heap.size w w' := by
 have HTM := Lib.hid (show ∀ W, Calls Try.prog 91 #[.int .i64 (p : Int), .agg (zb 64 B), .agg (zb 64 B)] W fun e w' => e = .returned (.tuple #[.agg (zb 64 (prd p B B)), .bool true]) ∧ Below W.heap.size W w' from fun W => by
  have := l01Times_any p B B W p2 p7 lB lB
  rw [show tmV p B B = (prd p B B, true) from if_pos hB] at this; exact this)
 have HAD := Lib.hid (fun W => l01Add_any p (prd p B B) D (-1) W p2 p7 (by omega) (by omega) (fun i _ => prd_lt (by omega) i) lD)
 go_enter Try.func163, Try.ntmps163
 go_upto_region 1 with (fail)
 rw [← z64]
 obtain ⟨W1, hwo⟩ : ∃ v : World, v = (((w.alloc (.cells (zb 64 (D)) 23)).alloc (.cells (zb 64 (B)) 23)).alloc (.cells (zb 64 (fun _ => 0)) 23)) := ⟨_, rfl⟩
 have B0 : Blk W1 (w.heap.size) 64 23 (D) := by subst hwo; have := (((Blk.new w 64 23 (D)).alloc (.cells (zb 64 (B)) 23)).alloc (.cells (zb 64 (fun _ => 0)) 23)); simpa using this
 have B1 : Blk W1 (w.heap.size + 1) 64 23 (B) := by subst hwo; have := ((Blk.new (w.alloc (.cells (zb 64 (D)) 23)) 64 23 (B)).alloc (.cells (zb 64 (fun _ => 0)) 23)); simpa using this
 have B2 : Blk W1 (w.heap.size + 1 + 1) 64 23 (fun _ => 0) := by subst hwo; have := (Blk.new ((w.alloc (.cells (zb 64 (D)) 23)).alloc (.cells (zb 64 (B)) 23)) 64 23 (fun _ => 0)); simpa using this
 have hb : Below w.heap.size w W1 := by subst hwo; exact ((((Below.refl _ _).alloc (Nat.le_refl _) _).alloc (by simp) _).alloc (by simp; omega) _)
 rw [← hwo]
 clear hwo
 have lt_B0 := B0.lt
 have lt_B1 := B1.lt
 have lt_B2 := B2.lt
 go_upto_region 2 with (first | rw [← z64] | (refine zla (.tmp 5) B1 Try.underlying23 Try.size23 ?_) | (refine zla (.tmp 5) B1 Try.underlying23 Try.size23 ?_) | (go_at_call 91; refine (HTM.out _).mono ?_; rintro e W2 ⟨rfl, hW2⟩; replace B0 := B0.zw hW2; replace B1 := B1.zw hW2; replace B2 := B2.zw hW2; replace hb := (hb).trans (hW2.mono (hb).size)) | (refine wpList_store_blk rfl 23 (.tmp 7) (.tmp 14) rfl _ 64 (prd p B B) rfl rfl 23 _ ((Blk.new W2 64 23 (fun _ => 0))) Try.size23 ?_; try simp only [Act.put]; go_upto_region 2 with (fail)))
 have lt_B0 := B0.lt
 have lt_B1 := B1.lt
 have lt_B2 := B2.lt
 have lhb := hb.size
 obtain ⟨W3, hwo, hzQ⟩ : ∃ v : World, v = ((W2.alloc (.cells (zb 64 (fun _ => 0)) 23)).setRow (W2.heap.size) (zb 64 (prd p B B))) ∧ Blk v (w.heap.size) 64 23 (D) ∧ Blk v (w.heap.size + 1) 64 23 (B) ∧ Blk v (w.heap.size + 1 + 1) 64 23 (fun _ => 0) ∧ Blk v (W2.heap.size) 64 23 (prd p B B) ∧ Below w.heap.size w v := ⟨_, rfl, ((B0.alloc (.cells (zb 64 (fun _ => 0)) 23)).rowOther (by omega)), ((B1.alloc (.cells (zb 64 (fun _ => 0)) 23)).rowOther (by omega)), ((B2.alloc (.cells (zb 64 (fun _ => 0)) 23)).rowOther (by omega)), ((Blk.new W2 64 23 (fun _ => 0)).row (prd p B B)), (zr (hb.alloc (by have := hb.size; simp; omega) (.cells (zb 64 (fun _ => 0)) 23)) (by omega) _)⟩
 rw [← hwo]
 clear hwo B0 B1 B2 hb
 obtain ⟨B0, B1, B2, B3, hb⟩ := hzQ
 obtain ⟨N1, hNN⟩ : ∃ n : Nat, n = W2.heap.size := ⟨_, rfl⟩
 rw [← hNN] at lt_B0 lt_B1 lt_B2 lhb B3 ⊢
 clear hNN
 have zN1_0 := lt_B0
 have zN1_1 := lt_B1
 have zN1_2 := lt_B2
 have zN1 := lhb
 clear lt_B0 lt_B1 lt_B2 lhb
 try simp only [Act.put, pA, pB, pC]
 have lt_B0 := B0.lt
 have lt_B1 := B1.lt
 have lt_B2 := B2.lt
 have lt_B3 := B3.lt
 go_wp2_with (first | rw [← z64] | (refine zla (.tmp 7) B3 Try.underlying23 Try.size23 ?_) | (refine zla (.tmp 4) B0 Try.underlying23 Try.size23 ?_) | (go_at_call 153; refine (HAD.out _).mono ?_; rintro e W4 ⟨rfl, hW4⟩; replace B0 := B0.zw hW4; replace B1 := B1.zw hW4; replace B2 := B2.zw hW4; replace B3 := B3.zw hW4; replace hb := (hb).trans (hW4.mono (hb).size)) | (refine zsr (.tmp 6) (.tmp 19) (addK p (prd p B B) D (-1)) B2 Try.size23 ?_; try simp only [Act.put]))
 obtain ⟨W5, hwo, hzQ⟩ : ∃ v : World, v = (W4.setRow (w.heap.size + 1 + 1) (zb 64 (addK p (prd p B B) D (-1)))) ∧ Blk v (w.heap.size) 64 23 (D) ∧ Blk v (w.heap.size + 1) 64 23 (B) ∧ Blk v (w.heap.size + 1 + 1) 64 23 (addK p (prd p B B) D (-1)) ∧ Blk v (N1) 64 23 (prd p B B) ∧ Below w.heap.size w v := ⟨_, rfl, (B0.rowOther (by omega)), (B1.rowOther (by omega)), (B2.row (addK p (prd p B B) D (-1))), (B3.rowOther (by omega)), (zr hb (by omega) _)⟩
 rw [← hwo]
 clear hwo B0 B1 B2 B3 hb
 obtain ⟨B0, B1, B2, B3, hb⟩ := hzQ
 try simp only [Act.put, pA, pB, pC]
 refine bodyPost_ret (zrb rfl _ _ _ 64 23 5 _ rfl B2 Try.underlying23 Try.size23) rfl ⟨rfl, hb⟩
set_option maxRecDepth 100000 in
set_option maxHeartbeats 3200000 in
theorem genus_any (q : Int) (g : Nat) (D : Nat → Nat) (w : World) (hD : deg D = ((2 * g + 1 : Nat) : Int)) :
 Calls Try.prog 169 #[.agg (fdC q D).toArray] w fun e w' => e = .returned (.int .i64 (g : Int)) ∧ Below w.heap.size w w' := by
 obtain ⟨N, hN⟩ : ∃ N : Nat, N = 2 * g + 1 := ⟨_, rfl⟩
 rw [← hN] at hD
 have hg9 : N ≤ 63 := by have := zdb D; omega
 have tq1 : (N : Int).tdiv 2 = (g : Int) := by rw [Int.tdiv_eq_ediv_of_nonneg (by omega)]; omega
 have HDG := Lib.hid (fun W => degree_any D W)
 rw [hD] at HDG
 have hN1 : 1 ≤ N := by omega
 have hg31 : g ≤ 31 := by omega
 clear hD hN
 go_enter Try.func169, Try.ntmps169
 go_upto_region 1 with (fail)
 obtain ⟨W1, hwo⟩ : ∃ v : World, v = (w.alloc (.cells (fdC q D).toArray 107)) := ⟨_, rfl⟩
 have B0 : Row W1 (w.heap.size) 107 (fdC q D).toArray := by subst hwo; have := (Row.new w 107 (fdC q D).toArray); simpa using this
 have hb : Below w.heap.size w W1 := by subst hwo; exact ((Below.refl _ _).alloc (Nat.le_refl _) _)
 rw [← hwo]
 clear hwo
 go_wp2_with (first | (refine wpList_load_mid rfl 23 (.tmp 3) rfl _ 1 rfl (bl 64 D) _ (B0.fd) Try.underlying23 rfl (by rw [zl]; exact Try.size23) ?_) | (go_at_call 92; refine (HDG.out _).mono ?_; rintro e W2 ⟨rfl, hW2⟩; replace B0 := B0.zw hW2; replace hb := (hb).trans (hW2.mono (hb).size)))
 go_ret
 exact ⟨by first | rfl | rw [tq1], hb⟩
set_option maxRecDepth 100000 in
set_option maxHeartbeats 3200000 in
theorem l07Genus_any (g : Nat) (D : Nat → Nat) (w : World) (hD : deg D = ((2 * g + 1 : Nat) : Int)) :
 Calls Try.prog 165 #[.agg (zb 64 D)] w fun e w' => e = .returned (.int .i64 (g : Int)) ∧ Below w.heap.size w w' := by
 obtain ⟨N, hN⟩ : ∃ N : Nat, N = 2 * g + 1 := ⟨_, rfl⟩
 rw [← hN] at hD
 have hg9 : N ≤ 63 := by have := zdb D; omega
 have tq1 : ((N : Int) - 1).tdiv 2 = (g : Int) := by rw [Int.tdiv_eq_ediv_of_nonneg (by omega)]; omega
 have HDG := Lib.hid (fun W => l01Deg_any D W)
 rw [hD] at HDG
 have hN1 : 1 ≤ N := by omega
 have hg31 : g ≤ 31 := by omega
 clear hD hN
 go_enter Try.func165, Try.ntmps165
 go_upto_region 1 with (fail)
 obtain ⟨W1, hwo⟩ : ∃ v : World, v = (w.alloc (.cells (zb 64 (D)) 23)) := ⟨_, rfl⟩
 have B0 : Blk W1 (w.heap.size) 64 23 (D) := by subst hwo; have := (Blk.new w 64 23 (D)); simpa using this
 have hb : Below w.heap.size w W1 := by subst hwo; exact ((Below.refl _ _).alloc (Nat.le_refl _) _)
 rw [← hwo]
 clear hwo
 go_wp2_with (first | (refine zla (.tmp 1) B0 Try.underlying23 Try.size23 ?_) | (go_at_call 88; refine (HDG.out _).mono ?_; rintro e W2 ⟨rfl, hW2⟩; replace B0 := B0.zw hW2; replace hb := (hb).trans (hW2.mono (hb).size)))
 go_ret
 exact ⟨by first | rfl | rw [tq1], hb⟩
set_option maxRecDepth 100000 in
set_option maxHeartbeats 3200000 in
theorem isReduced_any (q : Int) (g : Nat) (D A B : Nat → Nat) (w : World) (hD : deg D = ((2 * g + 1 : Nat) : Int)) :
 Calls Try.prog 134 #[.agg (fdC q D).toArray, .agg (frC A B).toArray] w fun e w' => e = .returned (.bool (decide (deg A ≤ (g : Int)))) ∧ Below w.heap.size w w' := by
 have HGN := Lib.hid (fun W => genus_any q g D W hD)
 go_enter Try.func134, Try.ntmps134
 go_upto_region 1 with (fail)
 obtain ⟨W1, hwo⟩ : ∃ v : World, v = ((w.alloc (.cells (fdC q D).toArray 107)).alloc (.cells (frC A B).toArray 55)) := ⟨_, rfl⟩
 have B0 : Row W1 (w.heap.size) 107 (fdC q D).toArray := by subst hwo; have := ((Row.new w 107 (fdC q D).toArray).alloc (.cells (frC A B).toArray 55)); simpa using this
 have B1 : Row W1 (w.heap.size + 1) 55 (frC A B).toArray := by subst hwo; have := (Row.new (w.alloc (.cells (fdC q D).toArray 107)) 55 (frC A B).toArray); simpa using this
 have hb : Below w.heap.size w W1 := by subst hwo; exact (((Below.refl _ _).alloc (Nat.le_refl _) _).alloc (by simp) _)
 rw [← hwo]
 clear hwo
 refine zq Try.mixed (by kernel_rfl) (by kernel_rfl) (fun v => by (simp only [frL, Act.put, pA, pB, pC, Nat.reduceAdd, Nat.zero_add]; exact rfl))
  (fun L v W2 => Below W1.heap.size W1 W2 ∧ VF L v [some (.pointer (some ⟨w.heap.size + 1, 0, none⟩)), some (.agg (zb 64 (A))), some (.int .i64 (deg A)), some (.agg (fdC q D).toArray), some (.int .i64 (g : Int)), some (.bool (decide (deg A ≤ (g : Int)))), some (.bool (decide (deg A ≤ (g : Int))))]) ?_ ?_ ?_
 · intro v hv0
   exact ⟨(Below.refl _ W1).drew, VF.start⟩
 · refine (.cons rfl ?_ (.cons rfl ?_ (.cons rfl ?_ (.cons rfl ?_ (.cons rfl ?_ (.cons rfl ?_ (.cons rfl ?_ (.nil _))))))))
   all_goals intro L v W2 hd hn ⟨hY, V⟩ K hK
   · go_wp2_with fail
     exact hK _ (.pointer (some ⟨w.heap.size + 1, 0, none⟩)) _ (by simp only [Act.put, pA, pB, pC ]) ⟨hY, V.step 0 rfl⟩
   · have e0 := V.at (zdq hd 0 rfl) rfl
     refine wp_load_mid 23 _ rfl _ 0 e0 _ _ ((B1.zw hY).fra) Try.underlying23 rfl (by rw [zl]; exact Try.size23) ?_
     exact hK _ _ _ rfl ⟨hY, V.step 1 rfl⟩
   · have e1 := V.at (zdq hd 1 rfl) rfl
     go_wp2_with (go_at_call 92; refine (degree_any A _).mono ?_; rintro e wy ⟨rfl, hy⟩)
     exact hK _ (.int .i64 (deg A)) _ (by simp only [Act.put, pA, pB, pC, e1]) ⟨hY.trans (hy.mono hY.size), V.step 2 rfl⟩
   · refine wp_load_rowv 107 _ rfl _ rfl 107 _ (B0.zw hY) _ Try.underlying107 rfl 65 Try.size107 (by simp [fdC_len]) ?_
     exact hK _ _ _ rfl ⟨hY, V.step 3 rfl⟩
   · have e3 := V.at (zdq hd 3 rfl) rfl
     go_wp2_with (go_at_call 169; refine (HGN.out _).mono ?_; rintro e wy ⟨rfl, hy⟩)
     exact hK _ (.int .i64 (g : Int)) _ (by simp only [Act.put, pA, pB, pC, e3]) ⟨hY.trans (hy.mono hY.size), V.step 4 rfl⟩
   · have e2 := V.at (zdq hd 2 rfl) rfl
     have e4 := V.at (zdq hd 4 rfl) rfl
     go_wp2_with fail
     exact hK _ (.bool (decide (deg A ≤ (g : Int)))) _ (by simp only [Act.put, pA, pB, pC, e2, e4]) ⟨hY, V.step 5 rfl⟩
   · have e5 := V.at (zdq hd 5 rfl) rfl
     go_wp2_with fail
     exact hK _ (.bool (decide (deg A ≤ (g : Int)))) _ (by simp only [Act.put, pA, pB, pC, e5]) ⟨hY, V.step 6 rfl⟩
 · intro L v W2 hL ⟨hY, V⟩
   have e0 := V.at (hL 0 (by decide)) rfl
   have e1 := V.at (hL 1 (by decide)) rfl
   have e2 := V.at (hL 2 (by decide)) rfl
   have e3 := V.at (hL 3 (by decide)) rfl
   have e4 := V.at (hL 4 (by decide)) rfl
   have e5 := V.at (hL 5 (by decide)) rfl
   have e6 := V.at (hL 6 (by decide)) rfl
   clear hL V
   replace B0 := B0.zw hY
   replace B1 := B1.zw hY
   replace hb := hb.trans (hY.mono hb.size)
   clear hY
   simp only [Exit.then, e0, e1, e2, e3, e4, e5, e6]
   clear e0 e1 e2 e3 e4 e5 e6
   go_wp2_with fail
   go_ret
   exact ⟨rfl, hb⟩
set_option maxRecDepth 100000 in
set_option maxHeartbeats 3200000 in
theorem inverse_any (p : Nat) (D A B : Nat → Nat) (w : World) (p2 : 2 ≤ p) (p7 : p ≤ 7) (lB : ∀ k, k < 64 → B k < p) :
 Calls Try.prog 137 #[.agg (fdC (p : Int) D).toArray, .agg (frC A B).toArray] w fun e w' => e = .returned (.agg (frC A (ngP p B)).toArray) ∧ Below w.heap.size w w' := by
 have HDF := Lib.hid (show ∀ W, Calls Try.prog 158 #[.int .i64 (p : Int), .agg (zb 64 (fun _ => 0)), .agg (zb 64 B)] W fun e w' => e = .returned (.agg (zb 64 (ngP p B))) ∧ Below W.heap.size W w' from fun W => by
  have := difference_any p (fun _ => 0) B W p2 p7 (fun i _ => by omega) lB
  rw [← ngP_def] at this; exact this)
 go_enter Try.func137, Try.ntmps137
 go_upto_region 1 with (fail)
 rw [← frC_zero]
 obtain ⟨W1, hwo⟩ : ∃ v : World, v = (((w.alloc (.cells (fdC (p : Int) D).toArray 107)).alloc (.cells (frC A B).toArray 55)).alloc (.cells (frC (fun _ => 0) (fun _ => 0)).toArray 55)) := ⟨_, rfl⟩
 have B0 : Row W1 (w.heap.size) 107 (fdC (p : Int) D).toArray := by subst hwo; have := (((Row.new w 107 (fdC (p : Int) D).toArray).alloc (.cells (frC A B).toArray 55)).alloc (.cells (frC (fun _ => 0) (fun _ => 0)).toArray 55)); simpa using this
 have B1 : Row W1 (w.heap.size + 1) 55 (frC A B).toArray := by subst hwo; have := ((Row.new (w.alloc (.cells (fdC (p : Int) D).toArray 107)) 55 (frC A B).toArray).alloc (.cells (frC (fun _ => 0) (fun _ => 0)).toArray 55)); simpa using this
 have B2 : Row W1 (w.heap.size + 1 + 1) 55 (frC (fun _ => 0) (fun _ => 0)).toArray := by subst hwo; have := (Row.new ((w.alloc (.cells (fdC (p : Int) D).toArray 107)).alloc (.cells (frC A B).toArray 55)) 55 (frC (fun _ => 0) (fun _ => 0)).toArray); simpa using this
 have hb : Below w.heap.size w W1 := by subst hwo; exact ((((Below.refl _ _).alloc (Nat.le_refl _) _).alloc (by simp) _).alloc (by simp; omega) _)
 rw [← hwo]
 clear hwo
 have lt_B0 := B0.lt
 have lt_B1 := B1.lt
 have lt_B2 := B2.lt
 go_upto_region 2 with (first | rw [← z64] | (refine wpList_load_rowc rfl 2 (.tmp 5) rfl _ 0 rfl 107 _ (B0) (.int .i64 (p : Int)) (fdC_at _ _) _ Try.underlying2 rfl ?_) | (refine wpList_load_mid rfl 23 (.tmp 8) rfl _ 64 rfl (bl 64 B) _ (B1.frb) Try.underlying23 rfl (by rw [zl]; exact Try.size23) ?_) | (go_at_call 158; refine (HDF.out _).mono ?_; rintro e W2 ⟨rfl, hW2⟩; replace B0 := B0.zw hW2; replace B1 := B1.zw hW2; replace B2 := B2.zw hW2; replace hb := (hb).trans (hW2.mono (hb).size)) | (refine wpList_store_part rfl 23 (.tmp 11) (.tmp 10) rfl _ 64 (ngP p B) rfl rfl 55 _ (frC A (ngP p B)).toArray (B1) (frC_b _ _ _) (by first | decide | simp [frC_len]) Try.size23 ?_; try simp only [Act.put]))
 obtain ⟨W3, hwo, hzQ⟩ : ∃ v : World, v = (W2.setRow (w.heap.size + 1) (frC A (ngP p B)).toArray) ∧ Row v (w.heap.size) 107 (fdC (p : Int) D).toArray ∧ Row v (w.heap.size + 1) 55 (frC A (ngP p B)).toArray ∧ Row v (w.heap.size + 1 + 1) 55 (frC (fun _ => 0) (fun _ => 0)).toArray ∧ Below w.heap.size w v := ⟨_, rfl, (B0.rowOther (by omega)), (B1.row (frC A (ngP p B)).toArray), (B2.rowOther (by omega)), (zr hb (by omega) _)⟩
 rw [← hwo]
 clear hwo B0 B1 B2 hb
 obtain ⟨B0, B1, B2, hb⟩ := hzQ
 try simp only [Act.put, pA, pB, pC]
 have lt_B0 := B0.lt
 have lt_B1 := B1.lt
 have lt_B2 := B2.lt
 go_wp2_with (first | rw [← z64] | (refine zlr rfl 55 (.tmp 3) rfl _ rfl 55 (frC A (ngP p B)).toArray (B1) _ Try.underlying55 rfl 128 Try.size55 (by simp [frC_len]) ?_) | (refine wpList_store_rowv rfl 55 (.tmp 4) (.tmp 12) rfl _ rfl (frC A (ngP p B)).toArray rfl 55 _ (B2) 128 Try.size55 (by simp [frC_len]) (by simp [frC_len]) (frC_all _ _) ?_; try simp only [Act.put]))
 obtain ⟨W4, hwo, hzQ⟩ : ∃ v : World, v = (W3.setRow (w.heap.size + 1 + 1) (frC A (ngP p B)).toArray) ∧ Row v (w.heap.size) 107 (fdC (p : Int) D).toArray ∧ Row v (w.heap.size + 1) 55 (frC A (ngP p B)).toArray ∧ Row v (w.heap.size + 1 + 1) 55 (frC A (ngP p B)).toArray ∧ Below w.heap.size w v := ⟨_, rfl, (B0.rowOther (by omega)), (B1.rowOther (by omega)), (B2.row (frC A (ngP p B)).toArray), (zr hb (by omega) _)⟩
 rw [← hwo]
 clear hwo B0 B1 B2 hb
 obtain ⟨B0, B1, B2, hb⟩ := hzQ
 try simp only [Act.put, pA, pB, pC]
 refine bodyPost_ret (results_row rfl _ _ _ _ _ rfl B2 _ Try.underlying55 rfl (by rw [Try.size55]; simp [frC_len])) rfl ⟨rfl, hb⟩
set_option maxRecDepth 100000 in
set_option maxHeartbeats 3200000 in
theorem madeMonic_any (p j : Nat) (f : Nat → Nat) (w : World) (hpr : p = 2 ∨ p = 3 ∨ p = 5 ∨ p = 7) (lf : ∀ k, k < 64 → f k < p) (hj : deg f = (j : Int)) :
 Calls Try.prog 168 #[.int .i64 (p : Int), .agg (zb 64 f)] w fun e w' => e = .returned (.agg (zb 64 (mkP p f))) ∧ Below w.heap.size w w' := by
 obtain ⟨j1, j2, j3⟩ := deg_top hj
 have hl := lf j j1
 obtain ⟨i1, i2, _, _⟩ := invF hpr j2 hl
 have HDG := Lib.hid (fun W => degree_any f W)
 rw [hj] at HDG
 have HIV := Lib.hid (fun W => inverseNumber_any p (f j) W hpr j2 hl)
 have HSC := Lib.hid (show ∀ W, Calls Try.prog 179 #[.int .i64 (p : Int), .agg (zb 64 f), .int .u8 ((invN p (f j) : Nat) : Int)] W fun e w' => e = .returned (.agg (zb 64 (mkP p f))) ∧ Below W.heap.size W w' from fun W => by
  have := scaled_any p f (invN p (f j)) W (by omega) (by omega) lf i2
  rw [← mkP_at hj] at this; exact this)
 have hf7 : f j < 256 := by omega
 have hi7 : invN p (f j) < 256 := by omega
 clear hj i1 j3 lf
 go_enter Try.func168, Try.ntmps168
 go_upto_region 1 with (fail)
 rw [← z64]
 obtain ⟨W1, hwo⟩ : ∃ v : World, v = ((w.alloc (.cells (zb 64 (f)) 23)).alloc (.cells (zb 64 (fun _ => 0)) 23)) := ⟨_, rfl⟩
 have B0 : Blk W1 (w.heap.size) 64 23 (f) := by subst hwo; have := ((Blk.new w 64 23 (f)).alloc (.cells (zb 64 (fun _ => 0)) 23)); simpa using this
 have B1 : Blk W1 (w.heap.size + 1) 64 23 (fun _ => 0) := by subst hwo; have := (Blk.new (w.alloc (.cells (zb 64 (f)) 23)) 64 23 (fun _ => 0)); simpa using this
 have hb : Below w.heap.size w W1 := by subst hwo; exact (((Below.refl _ _).alloc (Nat.le_refl _) _).alloc (by simp) _)
 rw [← hwo]
 clear hwo
 have lt_B0 : (w.heap.size) < W1.heap.size := B0.lt
 have lt_B1 : (w.heap.size + 1) < W1.heap.size := B1.lt
 have hbase : w.heap.size ≤ W1.heap.size := hb.size
 refine zq Try.mixed (by kernel_rfl) (by kernel_rfl) (fun v => by (simp only [frL, Act.put, pA, pB, pC, Nat.reduceAdd, Nat.zero_add]; exact rfl))
  (fun L v W2 => Below w.heap.size w W2 ∧ Kx [w.heap.size + 1] W1 W2 ∧ (∃ g, Blk W2 (w.heap.size + 1) 64 23 (g)) ∧ (L 9 = false → Blk W2 (w.heap.size + 1) 64 23 (fun _ => 0)) ∧ (L 9 = true → Blk W2 (w.heap.size + 1) 64 23 (mkP p f)) ∧ VF L v [some (.int .i64 (p : Int)), some (.agg (zb 64 (f))), some (.int .i64 (p : Int)), some (.agg (zb 64 (f))), some (.int .i64 (j : Int)), some (.pointer (some ⟨w.heap.size, j, none⟩)), some (.int .u8 ((f j : Nat) : Int)), some (.int .u8 ((invN p (f j) : Nat) : Int)), some (.agg (zb 64 (mkP p f))), none]) ?_ ?_ ?_
 · intro v hv0
   exact ⟨hb.drew, Kx.start _ _, ⟨_, B1.drew⟩, (fun _ => B1.drew), (fun h => by cases h), VF.start⟩
 · refine (.cons rfl ?_ (.cons rfl ?_ (.cons rfl ?_ (.cons rfl ?_ (.cons rfl ?_ (.cons rfl ?_ (.cons rfl ?_ (.cons rfl ?_ (.cons rfl ?_ (.cons rfl ?_ (.nil _)))))))))))
   all_goals intro L v W2 hd hn ⟨hB, hX, x1, q1, n1, V⟩ K hK
   · go_wp2_with fail
     exact hK _ (.int .i64 (p : Int)) _ (by simp only [Act.put, pA, pB, pC ]) ⟨hB, hX, x1, q1, n1, V.step 0 rfl⟩
   · refine wp_load_any 23 _ rfl _ rfl 64 23 _ (B0.kx hX (by simp <;> omega)) _ Try.underlying23 rfl Try.size23 ?_
     exact hK _ _ _ rfl ⟨hB, hX, x1, q1, n1, V.step 1 rfl⟩
   · go_wp2_with fail
     exact hK _ (.int .i64 (p : Int)) _ (by simp only [Act.put, pA, pB, pC ]) ⟨hB, hX, x1, q1, n1, V.step 2 rfl⟩
   · refine wp_load_any 23 _ rfl _ rfl 64 23 _ (B0.kx hX (by simp <;> omega)) _ Try.underlying23 rfl Try.size23 ?_
     exact hK _ _ _ rfl ⟨hB, hX, x1, q1, n1, V.step 3 rfl⟩
   · have e3 := V.at (zdq hd 3 rfl) rfl
     go_wp2_with (go_at_call 92; refine (HDG.out _).mono ?_; rintro e wy ⟨rfl, hy⟩)
     exact hK _ (.int .i64 (j : Int)) _ (by simp only [Act.put, pA, pB, pC, e3]) ⟨hB.trans (hy.mono hB.size), hX.below hy, (let ⟨g, h⟩ := x1; ⟨g, h.zw hy⟩), (fun h => (q1 h).below hy (q1 h).lt), (fun h => (n1 h).below hy (n1 h).lt), V.step 4 rfl⟩
   · have e4 := V.at (zdq hd 4 rfl) rfl
     go_wp2_with fail
     exact hK _ (.pointer (some ⟨w.heap.size, j, none⟩)) _ (by simp only [Act.put, pA, pB, pC, e4]) ⟨hB, hX, x1, q1, n1, V.step 5 rfl⟩
   · have e5 := V.at (zdq hd 5 rfl) rfl
     have cc := (B0.kx hX (by simp <;> omega)).cell (i := j) (by omega)
     go_wp2_with fail
     exact hK _ (.int .u8 ((f j : Nat) : Int)) _ (by simp only [Act.put, pA, pB, pC, e5]) ⟨hB, hX, x1, q1, n1, V.step 6 rfl⟩
   · have e2 := V.at (zdq hd 2 rfl) rfl
     have e6 := V.at (zdq hd 6 rfl) rfl
     go_wp2_with (go_at_call 178; refine ((callsBelow (HIV.out _))).mono ?_; rintro e wy ⟨rfl, hy⟩)
     exact hK _ (.int .u8 ((invN p (f j) : Nat) : Int)) _ (by simp only [Act.put, pA, pB, pC, e2, e6]) ⟨hB.trans (hy.mono hB.size), hX.below hy, (let ⟨g, h⟩ := x1; ⟨g, h.zw hy⟩), (fun h => (q1 h).below hy (q1 h).lt), (fun h => (n1 h).below hy (n1 h).lt), V.step 7 rfl⟩
   · have e0 := V.at (zdq hd 0 rfl) rfl
     have e1 := V.at (zdq hd 1 rfl) rfl
     have e7 := V.at (zdq hd 7 rfl) rfl
     go_wp2_with (go_at_call 179; refine (HSC.out _).mono ?_; rintro e wy ⟨rfl, hy⟩)
     exact hK _ (.agg (zb 64 (mkP p f))) _ (by simp only [Act.put, pA, pB, pC, e0, e1, e7]) ⟨hB.trans (hy.mono hB.size), hX.below hy, (let ⟨g, h⟩ := x1; ⟨g, h.zw hy⟩), (fun h => (q1 h).below hy (q1 h).lt), (fun h => (n1 h).below hy (n1 h).lt), V.step 8 rfl⟩
   · have e8 := V.at (zdq hd 8 rfl) rfl
     obtain ⟨gz, hk⟩ := x1
     refine zsb 23 _ _ rfl _ 64 (mkP p f) rfl e8 23 gz hk Try.size23 ?_
     exact hK _ undef _ rfl ⟨zr hB (by omega) _, hX.row (by simp) _, ⟨_, hk.row _⟩, (fun h => absurd h (by simp [setL])), (fun _ => hk.row _), V.skip 9 rfl⟩
 · intro L v W2 hL ⟨hB, hX, x1, q1, n1, V⟩
   have r1 := n1 (hL 9 (by decide))
   have e0 := V.at (hL 0 (by decide)) rfl
   have e1 := V.at (hL 1 (by decide)) rfl
   have e2 := V.at (hL 2 (by decide)) rfl
   have e3 := V.at (hL 3 (by decide)) rfl
   have e4 := V.at (hL 4 (by decide)) rfl
   have e5 := V.at (hL 5 (by decide)) rfl
   have e6 := V.at (hL 6 (by decide)) rfl
   have e7 := V.at (hL 7 (by decide)) rfl
   have e8 := V.at (hL 8 (by decide)) rfl
   clear hL x1 q1 n1 V
   replace B0 := B0.kx hX (by simp <;> omega)
   clear hX
   simp only [Exit.then, e0, e1, e2, e3, e4, e5, e6, e7, e8]
   clear e0 e1 e2 e3 e4 e5 e6 e7 e8
   replace B1 := r1
   clear r1
   replace hb := hB
   clear hB
   clear hbase lt_B0 lt_B1
   go_wp2_with fail
   refine bodyPost_ret (zrb rfl _ _ _ 64 23 5 _ rfl B1 Try.underlying23 Try.size23) rfl ⟨rfl, hb⟩
set_option maxRecDepth 100000 in
set_option maxHeartbeats 3200000 in
theorem l07Monic_any (p j : Nat) (f : Nat → Nat) (w : World) (hpr : p = 2 ∨ p = 3 ∨ p = 5 ∨ p = 7) (lf : ∀ k, k < 64 → f k < p) (hj : deg f = (j : Int)) :
 Calls Try.prog 166 #[.int .i64 (p : Int), .agg (zb 64 f)] w fun e w' => e = .returned (.agg (zb 64 (mkP p f))) ∧ Below w.heap.size w w' := by
 obtain ⟨j1, j2, j3⟩ := deg_top hj
 have hl := lf j j1
 obtain ⟨i1, i2, _, _⟩ := invF hpr j2 hl
 have HDG := Lib.hid (fun W => l01Deg_any f W)
 rw [hj] at HDG
 have HIV := Lib.hid (fun W => l01Inverse_any p (f j) W hpr j2 hl)
 have HAD := Lib.hid (show ∀ W, Calls Try.prog 153 #[.int .i64 (p : Int), .agg (zb 64 (fun _ => 0)), .agg (zb 64 f), .int .i64 ((invN p (f j) : Nat) : Int)] W fun e w' => e = .returned (.agg (zb 64 (mkP p f))) ∧ Below W.heap.size W w' from fun W => by
  have := l01Add_any p (fun _ => 0) f ((invN p (f j) : Nat) : Int) W (by omega) (by omega) (by omega) (by omega) (fun i _ => by omega) lf
  rw [addK_scl, ← mkP_at hj] at this; exact this)
 have hf7 : f j < 256 := by omega
 have hi7 : invN p (f j) < 256 := by omega
 clear hj i1 j3 lf
 go_enter Try.func166, Try.ntmps166
 go_upto_region 1 with (fail)
 rw [← z64]
 obtain ⟨W1, hwo⟩ : ∃ v : World, v = ((w.alloc (.cells (zb 64 (f)) 23)).alloc (.cells (zb 64 (fun _ => 0)) 23)) := ⟨_, rfl⟩
 have B0 : Blk W1 (w.heap.size) 64 23 (f) := by subst hwo; have := ((Blk.new w 64 23 (f)).alloc (.cells (zb 64 (fun _ => 0)) 23)); simpa using this
 have B1 : Blk W1 (w.heap.size + 1) 64 23 (fun _ => 0) := by subst hwo; have := (Blk.new (w.alloc (.cells (zb 64 (f)) 23)) 64 23 (fun _ => 0)); simpa using this
 have hb : Below w.heap.size w W1 := by subst hwo; exact (((Below.refl _ _).alloc (Nat.le_refl _) _).alloc (by simp) _)
 rw [← hwo]
 clear hwo
 have lt_B0 : (w.heap.size) < W1.heap.size := B0.lt
 have lt_B1 : (w.heap.size + 1) < W1.heap.size := B1.lt
 have hbase : w.heap.size ≤ W1.heap.size := hb.size
 refine zq Try.mixed (by kernel_rfl) (by kernel_rfl) (fun v => by (simp only [frL, Act.put, pA, pB, pC, Nat.reduceAdd, Nat.zero_add]; exact rfl))
  (fun L v W2 => Below w.heap.size w W2 ∧ Kx [w.heap.size + 1] W1 W2 ∧ (∃ g, Blk W2 (w.heap.size + 1) 64 23 (g)) ∧ (L 11 = false → Blk W2 (w.heap.size + 1) 64 23 (fun _ => 0)) ∧ (L 11 = true → Blk W2 (w.heap.size + 1) 64 23 (mkP p f)) ∧ VF L v [some (.int .i64 (p : Int)), some (.agg (zb 64 (fun _ => 0))), some (.agg (zb 64 (f))), some (.int .i64 (p : Int)), some (.agg (zb 64 (f))), some (.int .i64 (j : Int)), some (.pointer (some ⟨w.heap.size, j, none⟩)), some (.int .u8 ((f j : Nat) : Int)), some (.int .u8 ((invN p (f j) : Nat) : Int)), some (.int .i64 ((invN p (f j) : Nat) : Int)), some (.agg (zb 64 (mkP p f))), none]) ?_ ?_ ?_
 · intro v hv0
   exact ⟨hb.drew, Kx.start _ _, ⟨_, B1.drew⟩, (fun _ => B1.drew), (fun h => by cases h), VF.start⟩
 · refine (.cons rfl ?_ (.cons rfl ?_ (.cons rfl ?_ (.cons rfl ?_ (.cons rfl ?_ (.cons rfl ?_ (.cons rfl ?_ (.cons rfl ?_ (.cons rfl ?_ (.cons rfl ?_ (.cons rfl ?_ (.cons rfl ?_ (.nil _)))))))))))))
   all_goals intro L v W2 hd hn ⟨hB, hX, x1, q1, n1, V⟩ K hK
   · go_wp2_with fail
     exact hK _ (.int .i64 (p : Int)) _ (by simp only [Act.put, pA, pB, pC ]) ⟨hB, hX, x1, q1, n1, V.step 0 rfl⟩
   · go_wp2_with fail
     rw [← z64]
     exact hK _ (.agg (zb 64 (fun _ => 0))) _ (by simp only [Act.put, pA, pB, pC ]) ⟨hB, hX, x1, q1, n1, V.step 1 rfl⟩
   · refine wp_load_any 23 _ rfl _ rfl 64 23 _ (B0.kx hX (by simp <;> omega)) _ Try.underlying23 rfl Try.size23 ?_
     exact hK _ _ _ rfl ⟨hB, hX, x1, q1, n1, V.step 2 rfl⟩
   · go_wp2_with fail
     exact hK _ (.int .i64 (p : Int)) _ (by simp only [Act.put, pA, pB, pC ]) ⟨hB, hX, x1, q1, n1, V.step 3 rfl⟩
   · refine wp_load_any 23 _ rfl _ rfl 64 23 _ (B0.kx hX (by simp <;> omega)) _ Try.underlying23 rfl Try.size23 ?_
     exact hK _ _ _ rfl ⟨hB, hX, x1, q1, n1, V.step 4 rfl⟩
   · have e4 := V.at (zdq hd 4 rfl) rfl
     go_wp2_with (go_at_call 88; refine (HDG.out _).mono ?_; rintro e wy ⟨rfl, hy⟩)
     exact hK _ (.int .i64 (j : Int)) _ (by simp only [Act.put, pA, pB, pC, e4]) ⟨hB.trans (hy.mono hB.size), hX.below hy, (let ⟨g, h⟩ := x1; ⟨g, h.zw hy⟩), (fun h => (q1 h).below hy (q1 h).lt), (fun h => (n1 h).below hy (n1 h).lt), V.step 5 rfl⟩
   · have e5 := V.at (zdq hd 5 rfl) rfl
     go_wp2_with fail
     exact hK _ (.pointer (some ⟨w.heap.size, j, none⟩)) _ (by simp only [Act.put, pA, pB, pC, e5]) ⟨hB, hX, x1, q1, n1, V.step 6 rfl⟩
   · have e6 := V.at (zdq hd 6 rfl) rfl
     have cc := (B0.kx hX (by simp <;> omega)).cell (i := j) (by omega)
     go_wp2_with fail
     exact hK _ (.int .u8 ((f j : Nat) : Int)) _ (by simp only [Act.put, pA, pB, pC, e6]) ⟨hB, hX, x1, q1, n1, V.step 7 rfl⟩
   · have e3 := V.at (zdq hd 3 rfl) rfl
     have e7 := V.at (zdq hd 7 rfl) rfl
     go_wp2_with (go_at_call 156; refine ((callsBelow (HIV.out _))).mono ?_; rintro e wy ⟨rfl, hy⟩)
     exact hK _ (.int .u8 ((invN p (f j) : Nat) : Int)) _ (by simp only [Act.put, pA, pB, pC, e3, e7]) ⟨hB.trans (hy.mono hB.size), hX.below hy, (let ⟨g, h⟩ := x1; ⟨g, h.zw hy⟩), (fun h => (q1 h).below hy (q1 h).lt), (fun h => (n1 h).below hy (n1 h).lt), V.step 8 rfl⟩
   · have e8 := V.at (zdq hd 8 rfl) rfl
     go_wp2_with fail
     exact hK _ (.int .i64 ((invN p (f j) : Nat) : Int)) _ (by simp only [Act.put, pA, pB, pC, e8]) ⟨hB, hX, x1, q1, n1, V.step 9 rfl⟩
   · have e0 := V.at (zdq hd 0 rfl) rfl
     have e1 := V.at (zdq hd 1 rfl) rfl
     have e2 := V.at (zdq hd 2 rfl) rfl
     have e9 := V.at (zdq hd 9 rfl) rfl
     go_wp2_with (go_at_call 153; refine (HAD.out _).mono ?_; rintro e wy ⟨rfl, hy⟩)
     exact hK _ (.agg (zb 64 (mkP p f))) _ (by simp only [Act.put, pA, pB, pC, e0, e1, e2, e9]) ⟨hB.trans (hy.mono hB.size), hX.below hy, (let ⟨g, h⟩ := x1; ⟨g, h.zw hy⟩), (fun h => (q1 h).below hy (q1 h).lt), (fun h => (n1 h).below hy (n1 h).lt), V.step 10 rfl⟩
   · have e10 := V.at (zdq hd 10 rfl) rfl
     obtain ⟨gz, hk⟩ := x1
     refine zsb 23 _ _ rfl _ 64 (mkP p f) rfl e10 23 gz hk Try.size23 ?_
     exact hK _ undef _ rfl ⟨zr hB (by omega) _, hX.row (by simp) _, ⟨_, hk.row _⟩, (fun h => absurd h (by simp [setL])), (fun _ => hk.row _), V.skip 11 rfl⟩
 · intro L v W2 hL ⟨hB, hX, x1, q1, n1, V⟩
   have r1 := n1 (hL 11 (by decide))
   have e0 := V.at (hL 0 (by decide)) rfl
   have e1 := V.at (hL 1 (by decide)) rfl
   have e2 := V.at (hL 2 (by decide)) rfl
   have e3 := V.at (hL 3 (by decide)) rfl
   have e4 := V.at (hL 4 (by decide)) rfl
   have e5 := V.at (hL 5 (by decide)) rfl
   have e6 := V.at (hL 6 (by decide)) rfl
   have e7 := V.at (hL 7 (by decide)) rfl
   have e8 := V.at (hL 8 (by decide)) rfl
   have e9 := V.at (hL 9 (by decide)) rfl
   have e10 := V.at (hL 10 (by decide)) rfl
   clear hL x1 q1 n1 V
   replace B0 := B0.kx hX (by simp <;> omega)
   clear hX
   simp only [Exit.then, e0, e1, e2, e3, e4, e5, e6, e7, e8, e9, e10]
   clear e0 e1 e2 e3 e4 e5 e6 e7 e8 e9 e10
   replace B1 := r1
   clear r1
   replace hb := hB
   clear hB
   clear hbase lt_B0 lt_B1
   go_wp2_with fail
   refine bodyPost_ret (zrb rfl _ _ _ 64 23 5 _ rfl B1 Try.underlying23 Try.size23) rfl ⟨rfl, hb⟩
set_option maxRecDepth 100000 in
set_option maxHeartbeats 3200000 in
theorem l07Opposite_any (p : Nat) (B A : Nat → Nat) (w : World) (hpr : p = 2 ∨ p = 3 ∨ p = 5 ∨ p = 7) (lB : ∀ k, k < 64 → B k < p) (lA : ∀ k, k < 64 → A k < p) (h0 : 0 ≤ deg A) :
 Calls Try.prog 136 #[.int .i64 (p : Int), .agg (zb 64 B), .agg (zb 64 A)] w fun e w' => e = .returned (.agg (zb 64 (resP p (ngP p B) A))) ∧ Below w.heap.size w w' := by
 have p0 : 0 < p := by omega
 have HAD := Lib.hid (show ∀ W, Calls Try.prog 153 #[.int .i64 (p : Int), .agg (zb 64 (fun _ => 0)), .agg (zb 64 B), .int .i64 (-1)] W fun e w' => e = .returned (.agg (zb 64 (ngP p B))) ∧ Below W.heap.size W w' from fun W => by
  have := l01Add_any p (fun _ => 0) B (-1) W (by omega) (by omega) (by omega) (by omega) (fun i _ => by omega) lB
  rw [zbc (subP_at p0 lB)] at this
  rw [show ngP p B = subP p (fun _ => 0) B by unfold ngP; rfl]; exact this)
 have HMD := Lib.hid (fun W => l01Mod_any p (ngP p B) A W hpr (fun k _ => ngP_lt p0 k) lA h0)
 go_enter Try.func136, Try.ntmps136
 go_upto_region 1 with (fail)
 rw [← z64]
 obtain ⟨W1, hwo⟩ : ∃ v : World, v = (((w.alloc (.cells (zb 64 (B)) 23)).alloc (.cells (zb 64 (A)) 23)).alloc (.cells (zb 64 (fun _ => 0)) 23)) := ⟨_, rfl⟩
 have B0 : Blk W1 (w.heap.size) 64 23 (B) := by subst hwo; have := (((Blk.new w 64 23 (B)).alloc (.cells (zb 64 (A)) 23)).alloc (.cells (zb 64 (fun _ => 0)) 23)); simpa using this
 have B1 : Blk W1 (w.heap.size + 1) 64 23 (A) := by subst hwo; have := ((Blk.new (w.alloc (.cells (zb 64 (B)) 23)) 64 23 (A)).alloc (.cells (zb 64 (fun _ => 0)) 23)); simpa using this
 have B2 : Blk W1 (w.heap.size + 1 + 1) 64 23 (fun _ => 0) := by subst hwo; have := (Blk.new ((w.alloc (.cells (zb 64 (B)) 23)).alloc (.cells (zb 64 (A)) 23)) 64 23 (fun _ => 0)); simpa using this
 have hb : Below w.heap.size w W1 := by subst hwo; exact ((((Below.refl _ _).alloc (Nat.le_refl _) _).alloc (by simp) _).alloc (by simp; omega) _)
 rw [← hwo]
 clear hwo
 have lt_B0 : (w.heap.size) < W1.heap.size := B0.lt
 have lt_B1 : (w.heap.size + 1) < W1.heap.size := B1.lt
 have lt_B2 : (w.heap.size + 1 + 1) < W1.heap.size := B2.lt
 have hbase : w.heap.size ≤ W1.heap.size := hb.size
 refine zq Try.mixed (by kernel_rfl) (by kernel_rfl) (fun v => by (simp only [frL, Act.put, pA, pB, pC, Nat.reduceAdd, Nat.zero_add]; exact rfl))
  (fun L v W2 => Below w.heap.size w W2 ∧ Kx [w.heap.size + 1 + 1] W1 W2 ∧ (∃ g, Blk W2 (w.heap.size + 1 + 1) 64 23 (g)) ∧ (L 7 = false → Blk W2 (w.heap.size + 1 + 1) 64 23 (fun _ => 0)) ∧ (L 7 = true → Blk W2 (w.heap.size + 1 + 1) 64 23 (resP p (ngP p B) A)) ∧ VF L v [some (.int .i64 (p : Int)), some (.int .i64 (p : Int)), some (.agg (zb 64 (fun _ => 0))), some (.agg (zb 64 (B))), some (.agg (zb 64 (ngP p B))), some (.agg (zb 64 (A))), some (.agg (zb 64 (resP p (ngP p B) A))), none]) ?_ ?_ ?_
 · intro v hv0
   exact ⟨hb.drew, Kx.start _ _, ⟨_, B2.drew⟩, (fun _ => B2.drew), (fun h => by cases h), VF.start⟩
 · refine (.cons rfl ?_ (.cons rfl ?_ (.cons rfl ?_ (.cons rfl ?_ (.cons rfl ?_ (.cons rfl ?_ (.cons rfl ?_ (.cons rfl ?_ (.nil _)))))))))
   all_goals intro L v W2 hd hn ⟨hB, hX, x2, q2, n2, V⟩ K hK
   · go_wp2_with fail
     exact hK _ (.int .i64 (p : Int)) _ (by simp only [Act.put, pA, pB, pC ]) ⟨hB, hX, x2, q2, n2, V.step 0 rfl⟩
   · go_wp2_with fail
     exact hK _ (.int .i64 (p : Int)) _ (by simp only [Act.put, pA, pB, pC ]) ⟨hB, hX, x2, q2, n2, V.step 1 rfl⟩
   · go_wp2_with fail
     rw [← z64]
     exact hK _ (.agg (zb 64 (fun _ => 0))) _ (by simp only [Act.put, pA, pB, pC ]) ⟨hB, hX, x2, q2, n2, V.step 2 rfl⟩
   · refine wp_load_any 23 _ rfl _ rfl 64 23 _ (B0.kx hX (by simp <;> omega)) _ Try.underlying23 rfl Try.size23 ?_
     exact hK _ _ _ rfl ⟨hB, hX, x2, q2, n2, V.step 3 rfl⟩
   · have e1 := V.at (zdq hd 1 rfl) rfl
     have e2 := V.at (zdq hd 2 rfl) rfl
     have e3 := V.at (zdq hd 3 rfl) rfl
     go_wp2_with (go_at_call 153; refine (HAD.out _).mono ?_; rintro e wy ⟨rfl, hy⟩)
     exact hK _ (.agg (zb 64 (ngP p B))) _ (by simp only [Act.put, pA, pB, pC, e1, e2, e3]) ⟨hB.trans (hy.mono hB.size), hX.below hy, (let ⟨g, h⟩ := x2; ⟨g, h.zw hy⟩), (fun h => (q2 h).below hy (q2 h).lt), (fun h => (n2 h).below hy (n2 h).lt), V.step 4 rfl⟩
   · refine wp_load_any 23 _ rfl _ rfl 64 23 _ (B1.kx hX (by simp <;> omega)) _ Try.underlying23 rfl Try.size23 ?_
     exact hK _ _ _ rfl ⟨hB, hX, x2, q2, n2, V.step 5 rfl⟩
   · have e0 := V.at (zdq hd 0 rfl) rfl
     have e4 := V.at (zdq hd 4 rfl) rfl
     have e5 := V.at (zdq hd 5 rfl) rfl
     go_wp2_with (go_at_call 146; refine (HMD.out _).mono ?_; rintro e wy ⟨rfl, hy⟩)
     exact hK _ (.agg (zb 64 (resP p (ngP p B) A))) _ (by simp only [Act.put, pA, pB, pC, e0, e4, e5]) ⟨hB.trans (hy.mono hB.size), hX.below hy, (let ⟨g, h⟩ := x2; ⟨g, h.zw hy⟩), (fun h => (q2 h).below hy (q2 h).lt), (fun h => (n2 h).below hy (n2 h).lt), V.step 6 rfl⟩
   · have e6 := V.at (zdq hd 6 rfl) rfl
     obtain ⟨gz, hk⟩ := x2
     refine zsb 23 _ _ rfl _ 64 (resP p (ngP p B) A) rfl e6 23 gz hk Try.size23 ?_
     exact hK _ undef _ rfl ⟨zr hB (by omega) _, hX.row (by simp) _, ⟨_, hk.row _⟩, (fun h => absurd h (by simp [setL])), (fun _ => hk.row _), V.skip 7 rfl⟩
 · intro L v W2 hL ⟨hB, hX, x2, q2, n2, V⟩
   have r2 := n2 (hL 7 (by decide))
   have e0 := V.at (hL 0 (by decide)) rfl
   have e1 := V.at (hL 1 (by decide)) rfl
   have e2 := V.at (hL 2 (by decide)) rfl
   have e3 := V.at (hL 3 (by decide)) rfl
   have e4 := V.at (hL 4 (by decide)) rfl
   have e5 := V.at (hL 5 (by decide)) rfl
   have e6 := V.at (hL 6 (by decide)) rfl
   clear hL x2 q2 n2 V
   replace B0 := B0.kx hX (by simp <;> omega)
   replace B1 := B1.kx hX (by simp <;> omega)
   clear hX
   simp only [Exit.then, e0, e1, e2, e3, e4, e5, e6]
   clear e0 e1 e2 e3 e4 e5 e6
   replace B2 := r2
   clear r2
   replace hb := hB
   clear hB
   clear hbase lt_B0 lt_B1 lt_B2
   go_wp2_with fail
   refine bodyPost_ret (zrb rfl _ _ _ 64 23 5 _ rfl B2 Try.underlying23 Try.size23) rfl ⟨rfl, hb⟩
set_option maxRecDepth 100000 in
set_option maxHeartbeats 3200000 in
theorem has_any (p : Nat) (D A B : Nat → Nat) (w : World) (hpr : p = 2 ∨ p = 3 ∨ p = 5 ∨ p = 7) (lD : ∀ k, k < 64 → D k < p) (lA : ∀ k, k < 64 → A k < p) (lB : ∀ k, k < 64 → B k < p) (h0 : 0 ≤ deg A) :
 Calls Try.prog 126 #[.agg (fdC (p : Int) D).toArray, .agg (frC A B).toArray] w fun e w' => e = .returned (.bool (decide (deg (resP p (sqP p D B) A) < 0))) ∧ Below w.heap.size w w' := by
 have p0 : 0 < p := by omega
 have HLS := Lib.hid (fun W => lessSquare_any p D B W (by omega) (by omega) lD lB)
 have HRS := Lib.hid (fun W => restOf_any p (sqP p D B) A W hpr (fun k _ => sqP_ltI p0 k) lA h0)
 have hgd := Try.noGuard23
 have heq := fun W => zeb (P := Try.prog) W 9998 23 5 64 (resP p (sqP p D B) A) (fun _ => 0) Try.underlying23 Try.underlying5 Try.size5
 rw [eqN_zero] at heq
 go_enter Try.func126, Try.ntmps126
 go_upto_region 1 with (fail)
 obtain ⟨W1, hwo⟩ : ∃ v : World, v = ((w.alloc (.cells (fdC (p : Int) D).toArray 107)).alloc (.cells (frC A B).toArray 55)) := ⟨_, rfl⟩
 have B0 : Row W1 (w.heap.size) 107 (fdC (p : Int) D).toArray := by subst hwo; have := ((Row.new w 107 (fdC (p : Int) D).toArray).alloc (.cells (frC A B).toArray 55)); simpa using this
 have B1 : Row W1 (w.heap.size + 1) 55 (frC A B).toArray := by subst hwo; have := (Row.new (w.alloc (.cells (fdC (p : Int) D).toArray 107)) 55 (frC A B).toArray); simpa using this
 have hb : Below w.heap.size w W1 := by subst hwo; exact (((Below.refl _ _).alloc (Nat.le_refl _) _).alloc (by simp) _)
 rw [← hwo]
 clear hwo
 refine zq Try.mixed (by kernel_rfl) (by kernel_rfl) (fun v => by (simp only [frL, Act.put, pA, pB, pC, Nat.reduceAdd, Nat.zero_add]; exact rfl))
  (fun L v W2 => Below W1.heap.size W1 W2 ∧ VF L v [some (.pointer (some ⟨w.heap.size, 0, none⟩)), some (.int .i64 (p : Int)), some (.agg (fdC (p : Int) D).toArray), some (.pointer (some ⟨w.heap.size + 1, 64, none⟩)), some (.agg (zb 64 (B))), some (.agg (zb 64 (sqP p D B))), some (.pointer (some ⟨w.heap.size + 1, 0, none⟩)), some (.agg (zb 64 (A))), some (.agg (zb 64 (resP p (sqP p D B) A))), some (.agg (zb 64 (fun _ => 0))), some (.bool (decide (deg (resP p (sqP p D B) A) < 0))), some (.bool (decide (deg (resP p (sqP p D B) A) < 0)))]) ?_ ?_ ?_
 · intro v hv0
   exact ⟨(Below.refl _ W1).drew, VF.start⟩
 · refine (.cons rfl ?_ (.cons rfl ?_ (.cons rfl ?_ (.cons rfl ?_ (.cons rfl ?_ (.cons rfl ?_ (.cons rfl ?_ (.cons rfl ?_ (.cons rfl ?_ (.cons rfl ?_ (.cons rfl ?_ (.cons rfl ?_ (.nil _)))))))))))))
   all_goals intro L v W2 hd hn ⟨hY, V⟩ K hK
   · go_wp2_with fail
     exact hK _ (.pointer (some ⟨w.heap.size, 0, none⟩)) _ (by simp only [Act.put, pA, pB, pC ]) ⟨hY, V.step 0 rfl⟩
   · have e0 := V.at (zdq hd 0 rfl) rfl
     refine wp_load_rowc 2 _ rfl _ 0 e0 107 _ (B0.zw hY) (.int .i64 (p : Int)) (fdC_at _ _) _ Try.underlying2 rfl ?_
     exact hK _ _ _ rfl ⟨hY, V.step 1 rfl⟩
   · refine wp_load_rowv 107 _ rfl _ rfl 107 _ (B0.zw hY) _ Try.underlying107 rfl 65 Try.size107 (by simp [fdC_len]) ?_
     exact hK _ _ _ rfl ⟨hY, V.step 2 rfl⟩
   · go_wp2_with fail
     exact hK _ (.pointer (some ⟨w.heap.size + 1, 64, none⟩)) _ (by simp only [Act.put, pA, pB, pC ]) ⟨hY, V.step 3 rfl⟩
   · have e3 := V.at (zdq hd 3 rfl) rfl
     refine wp_load_mid 23 _ rfl _ 64 e3 _ _ ((B1.zw hY).frb) Try.underlying23 rfl (by rw [zl]; exact Try.size23) ?_
     exact hK _ _ _ rfl ⟨hY, V.step 4 rfl⟩
   · have e2 := V.at (zdq hd 2 rfl) rfl
     have e4 := V.at (zdq hd 4 rfl) rfl
     go_wp2_with (go_at_call 164; refine (HLS.out _).mono ?_; rintro e wy ⟨rfl, hy⟩)
     exact hK _ (.agg (zb 64 (sqP p D B))) _ (by simp only [Act.put, pA, pB, pC, e2, e4]) ⟨hY.trans (hy.mono hY.size), V.step 5 rfl⟩
   · go_wp2_with fail
     exact hK _ (.pointer (some ⟨w.heap.size + 1, 0, none⟩)) _ (by simp only [Act.put, pA, pB, pC ]) ⟨hY, V.step 6 rfl⟩
   · have e6 := V.at (zdq hd 6 rfl) rfl
     refine wp_load_mid 23 _ rfl _ 0 e6 _ _ ((B1.zw hY).fra) Try.underlying23 rfl (by rw [zl]; exact Try.size23) ?_
     exact hK _ _ _ rfl ⟨hY, V.step 7 rfl⟩
   · have e1 := V.at (zdq hd 1 rfl) rfl
     have e5 := V.at (zdq hd 5 rfl) rfl
     have e7 := V.at (zdq hd 7 rfl) rfl
     go_wp2_with (go_at_call 150; refine (HRS.out _).mono ?_; rintro e wy ⟨rfl, hy⟩)
     exact hK _ (.agg (zb 64 (resP p (sqP p D B) A))) _ (by simp only [Act.put, pA, pB, pC, e1, e5, e7]) ⟨hY.trans (hy.mono hY.size), V.step 8 rfl⟩
   · go_wp2_with fail
     rw [← z64]
     exact hK _ (.agg (zb 64 (fun _ => 0))) _ (by simp only [Act.put, pA, pB, pC ]) ⟨hY, V.step 9 rfl⟩
   · have e8 := V.at (zdq hd 8 rfl) rfl
     have e9 := V.at (zdq hd 9 rfl) rfl
     go_wp2_with fail
     exact hK _ (.bool (decide (deg (resP p (sqP p D B) A) < 0))) _ (by simp only [Act.put, pA, pB, pC, e8, e9]) ⟨hY, V.step 10 rfl⟩
   · have e10 := V.at (zdq hd 10 rfl) rfl
     go_wp2_with fail
     exact hK _ (.bool (decide (deg (resP p (sqP p D B) A) < 0))) _ (by simp only [Act.put, pA, pB, pC, e10]) ⟨hY, V.step 11 rfl⟩
 · intro L v W2 hL ⟨hY, V⟩
   have e0 := V.at (hL 0 (by decide)) rfl
   have e1 := V.at (hL 1 (by decide)) rfl
   have e2 := V.at (hL 2 (by decide)) rfl
   have e3 := V.at (hL 3 (by decide)) rfl
   have e4 := V.at (hL 4 (by decide)) rfl
   have e5 := V.at (hL 5 (by decide)) rfl
   have e6 := V.at (hL 6 (by decide)) rfl
   have e7 := V.at (hL 7 (by decide)) rfl
   have e8 := V.at (hL 8 (by decide)) rfl
   have e9 := V.at (hL 9 (by decide)) rfl
   have e10 := V.at (hL 10 (by decide)) rfl
   have e11 := V.at (hL 11 (by decide)) rfl
   clear hL V
   replace B0 := B0.zw hY
   replace B1 := B1.zw hY
   replace hb := hb.trans (hY.mono hb.size)
   clear hY
   simp only [Exit.then, e0, e1, e2, e3, e4, e5, e6, e7, e8, e9, e10, e11]
   clear e0 e1 e2 e3 e4 e5 e6 e7 e8 e9 e10 e11
   go_wp2_with fail
   go_ret
   exact ⟨rfl, hb⟩
end Go.Proofs.Ytoncepgcfifgbaa
end
section
namespace Go.Proofs.Ytoncepgcfifgbaa
open Go Go.RowKit
set_option linter.unusedVariables false
set_option linter.unusedSimpArgs false
attribute [local irreducible] deg invN quoP resP prd bzD bzU bzW sqP ngP mkP rdA rdB rdQ rdR rsQ
theorem rdA_eq (p : Nat) (D A B : Nat → Nat) : mkP p (rdQ p D A B) = rdA p D A B := by unfold rdA; rfl
theorem rdB_eq (p : Nat) (D A B : Nat → Nat) : resP p (ngP p B) (rdA p D A B) = rdB p D A B := by unfold rdB; rfl
theorem rdQ_eq (p : Nat) (D A B : Nat → Nat) : quoP p (sqP p D B) A = rdQ p D A B := by unfold rdQ; rfl
theorem rsQ_eq (p : Nat) (D A B : Nat → Nat) : quoP p (addK p (prd p B B) D (-1)) A = rsQ p D A B := by unfold rsQ; rfl
theorem rdQ_lt {p : Nat} {D A B : Nat → Nat} (hp : 0 < p) : ∀ k, k < 64 → rdQ p D A B k < p := fun k _ => by unfold rdQ; exact quoP_lt hp k
theorem rsQ_lt {p : Nat} {D A B : Nat → Nat} (hp : 0 < p) : ∀ k, k < 64 → rsQ p D A B k < p := fun k _ => by unfold rsQ; exact quoP_lt hp k
theorem fmI_deg {p : Nat} {D A B : Nat → Nat} (h : fmI p D A B) : 0 ≤ deg A ∧ deg A ≤ 12 ∧ deg B + deg B ≤ 63 := by
 obtain ⟨_, _, ⟨n, h1, h2⟩, h3, _⟩ := h
 rw [h1.1] at h3 ⊢
 omega
set_option maxRecDepth 100000 in
set_option maxHeartbeats 3200000 in
theorem reduced_any (p g : Nat) (D Ao Bo : Nat → Nat) (w : World) (hpr : p = 2 ∨ p = 3 ∨ p = 5 ∨ p = 7) (lD : ∀ k, k < 64 → D k < p) (hD : deg D = ((2 * g + 1 : Nat) : Int)) (hf : fmI p D Ao Bo) :
 Calls Try.prog 130 #[.agg (fdC (p : Int) D).toArray, .agg (frC Ao Bo).toArray] w fun e w' => e = .returned (.agg (frC (rdR p D g 64 Ao Bo).1 (rdR p D g 64 Ao Bo).2).toArray) ∧ Below w.heap.size w w' := by
 have p0 : 0 < p := by omega
 have p2 : 2 ≤ p := by omega
 have p7 : p ≤ 7 := by omega
 have hA64 : deg Ao ≤ 63 := (zdb Ao).2
 obtain ⟨V, hV⟩ : ∃ V, V = rdR p D g 64 Ao Bo := ⟨_, rfl⟩
 rw [← hV]
 have HI0 := Lib.hid (show rdR p D g 64 Ao Bo = V ∧ deg Ao ≤ ((64 : Nat) : Int) ∧ fmI p D Ao Bo from ⟨hV.symm, by omega, hf⟩)
 have HST := Lib.hid (fun A B (h : fmI p D A B) => rd_step (A := A) (B := B) hpr lD hD h)
 have HRD := Lib.hid (fun A B W => isReduced_any (p : Int) g D A B W hD)
 have HLS := Lib.hid (fun B (h : ∀ k, k < 64 → B k < p) W => lessSquare_any p D B W p2 p7 lD h)
 have HQR := Lib.hid (fun A B (h : fmI p D A B) => show ∀ W, Calls Try.prog 167 #[.int .i64 (p : Int), .agg (zb 64 (sqP p D B)), .agg (zb 64 A)] W fun e w' => e = .returned (.tuple #[.agg (zb 64 (rdQ p D A B)), .agg (zb 64 (resP p (sqP p D B) A))]) ∧ Below W.heap.size W w' from fun W => by
  have := quotientAndRest_any p (sqP p D B) A W hpr (fun k _ => sqP_ltI p0 k) h.1 (fmI_deg h).1
  rw [rdQ_eq] at this; exact this)
 have HMM := Lib.hid (fun A B (h : fmI p D A B) (hn : (g : Int) < deg A) => show ∀ W, Calls Try.prog 168 #[.int .i64 (p : Int), .agg (zb 64 (rdQ p D A B))] W fun e w' => e = .returned (.agg (zb 64 (rdA p D A B))) ∧ Below W.heap.size W w' from fun W => by
  obtain ⟨_, _, j, hj⟩ := rd_step hpr lD hD h hn
  have := madeMonic_any p j (rdQ p D A B) W hpr (rdQ_lt p0) hj
  rw [rdA_eq] at this; exact this)
 have HIN := Lib.hid (fun A B (h : ∀ k, k < 64 → B k < p) W => inverse_any p D A B W p2 p7 h)
 have HRO := Lib.hid (fun A B (h : fmI p D A B) (hn : (g : Int) < deg A) => show ∀ W, Calls Try.prog 150 #[.int .i64 (p : Int), .agg (zb 64 (ngP p B)), .agg (zb 64 (rdA p D A B))] W fun e w' => e = .returned (.agg (zb 64 (rdB p D A B))) ∧ Below W.heap.size W w' from fun W => by
  obtain ⟨hs, _, _⟩ := rd_step hpr lD hD h hn
  have := restOf_any p (ngP p B) (rdA p D A B) W hpr (fun k _ => ngP_lt p0 k) hs.1 (fmI_deg hs).1
  rw [rdB_eq] at this; exact this)
 clear hf hV hD lD hA64
 go_enter Try.func130, Try.ntmps130
 go_upto_region 1 with (fail)
 rw [← frC_zero]
 obtain ⟨W1, hwo⟩ : ∃ v : World, v = (((w.alloc (.cells (fdC (p : Int) D).toArray 107)).alloc (.cells (frC Ao Bo).toArray 55)).alloc (.cells (frC (fun _ => 0) (fun _ => 0)).toArray 55)) := ⟨_, rfl⟩
 have B0 : Row W1 (w.heap.size) 107 (fdC (p : Int) D).toArray := by subst hwo; have := (((Row.new w 107 (fdC (p : Int) D).toArray).alloc (.cells (frC Ao Bo).toArray 55)).alloc (.cells (frC (fun _ => 0) (fun _ => 0)).toArray 55)); simpa using this
 have B1 : Row W1 (w.heap.size + 1) 55 (frC Ao Bo).toArray := by subst hwo; have := ((Row.new (w.alloc (.cells (fdC (p : Int) D).toArray 107)) 55 (frC Ao Bo).toArray).alloc (.cells (frC (fun _ => 0) (fun _ => 0)).toArray 55)); simpa using this
 have B2 : Row W1 (w.heap.size + 1 + 1) 55 (frC (fun _ => 0) (fun _ => 0)).toArray := by subst hwo; have := (Row.new ((w.alloc (.cells (fdC (p : Int) D).toArray 107)).alloc (.cells (frC Ao Bo).toArray 55)) 55 (frC (fun _ => 0) (fun _ => 0)).toArray); simpa using this
 have hb : Below w.heap.size w W1 := by subst hwo; exact ((((Below.refl _ _).alloc (Nat.le_refl _) _).alloc (by simp) _).alloc (by simp; omega) _)
 rw [← hwo]
 clear hwo
 go_wp2_with fail
 go_loopw [7] (fun c wr => ∃ (fu : Nat) (A B : Nat → Nat), Hid (rdR p D g fu A B = V ∧ deg A ≤ (fu : Int) ∧ fmI p D A B) ∧ Below w.heap.size w wr ∧ Row wr (w.heap.size) 107 (fdC (p : Int) D).toArray ∧ Row wr (w.heap.size + 1) 55 (frC A B).toArray ∧ Row wr (w.heap.size + 1 + 1) 55 (frC (fun _ => 0) (fun _ => 0)).toArray) (fun _ wr => degAt wr (w.heap.size + 1))
 case atStart => exact ⟨64, _, _, HI0, hb, B0, B1, B2⟩
 case round =>
  clear hb B0 B1 B2 HI0
  obtain ⟨fu, A, B, hI, hb, B0, B1, B2⟩ := hrel
  have BFo := Lib.hid B1
  by_cases hge : deg A ≤ (g : Int)
  · obtain ⟨i1, _, _⟩ := hI.out
    have HV := Lib.hid (show (A, B) = V by rw [← i1, rdR_stop hge])
    clear i1 hI
    have HC := Lib.hid (fun W => HRD.out A B W)
    rw [show decide (deg A ≤ (g : Int)) = true by simpa using hge] at HC
    go_upto_region 1 with (fail)
    go_upto_region 5 with (first | (refine zlr rfl 107 (.tmp 2) rfl _ rfl 107 (fdC (p : Int) D).toArray (B0) _ Try.underlying107 rfl 65 Try.size107 (by simp [fdC_len]) ?_) | (refine zlr rfl 55 (.tmp 3) rfl _ rfl 55 (frC A B).toArray (B1) _ Try.underlying55 rfl 128 Try.size55 (by simp [frC_len]) ?_) | (go_at_call 134; refine (HC.out _).mono ?_; rintro e W2 ⟨rfl, hW2⟩; replace B0 := B0.zw hW2; replace B1 := B1.zw hW2; replace B2 := B2.zw hW2; replace hb := (hb).trans (hW2.mono (hb).size)))
    clear hge
    have lt_B0 := B0.lt
    have lt_B1 := B1.lt
    have lt_B2 := B2.lt
    go_wp2_with (first | rw [← z64] | (refine zlr rfl 55 (.tmp 3) rfl _ rfl 55 (frC A B).toArray (B1) _ Try.underlying55 rfl 128 Try.size55 (by simp [frC_len]) ?_) | (refine wpList_store_rowv rfl 55 (.tmp 4) (.tmp 38) rfl _ rfl (frC A B).toArray rfl 55 _ (B2) 128 Try.size55 (by simp [frC_len]) (by simp [frC_len]) (frC_all _ _) ?_; try simp only [Act.put]))
    obtain ⟨W3, hwo, hzQ⟩ : ∃ v : World, v = (W2.setRow (w.heap.size + 1 + 1) (frC A B).toArray) ∧ Row v (w.heap.size) 107 (fdC (p : Int) D).toArray ∧ Row v (w.heap.size + 1) 55 (frC A B).toArray ∧ Row v (w.heap.size + 1 + 1) 55 (frC A B).toArray ∧ Below w.heap.size w v := ⟨_, rfl, (B0.rowOther (by omega)), (B1.rowOther (by omega)), (B2.row (frC A B).toArray), (zr hb (by omega) _)⟩
    rw [← hwo]
    clear hwo B0 B1 B2 hb
    obtain ⟨B0, B1, B2, hb⟩ := hzQ
    try simp only [Act.put, pA, pB, pC]
    refine bodyPost_ret (results_row rfl _ _ _ _ _ rfl B2 _ Try.underlying55 rfl (by rw [Try.size55]; simp [frC_len])) rfl ⟨by rw [← HV.out], hb⟩
  · obtain ⟨i1, i2, i3⟩ := hI.out
    have hgl : (g : Int) < deg A := by omega
    obtain ⟨s1, s2, _⟩ := HST.out A B i3 hgl
    obtain ⟨fu, rfl⟩ : ∃ x, fu = x + 1 := ⟨fu - 1, by omega⟩
    have hI2 := Lib.hid (show rdR p D g fu (rdA p D A B) (rdB p D A B) = V ∧ deg (rdA p D A B) ≤ (fu : Int) ∧ fmI p D (rdA p D A B) (rdB p D A B) from ⟨by rw [← i1, rdR_go hge], by omega, s1⟩)
    have HM := Lib.hid s2
    have HDA := Lib.hid (fmI_deg i3).1
    have H1 := Lib.hid (HLS.out B i3.2.1)
    have H2 := Lib.hid (HQR.out A B i3)
    have H3 := Lib.hid (HMM.out A B i3 hgl)
    have H4 := Lib.hid (HIN.out (rdA p D A B) B i3.2.1)
    have H5 := Lib.hid (HRO.out A B i3 hgl)
    clear i1 i2 i3 s1 s2 hI hgl
    have HC := Lib.hid (fun W => HRD.out A B W)
    rw [show decide (deg A ≤ (g : Int)) = false by simpa using hge] at HC
    go_upto_region 1 with (fail)
    go_upto_region 2 with (first | (refine zlr rfl 107 (.tmp 2) rfl _ rfl 107 (fdC (p : Int) D).toArray (B0) _ Try.underlying107 rfl 65 Try.size107 (by simp [fdC_len]) ?_) | (refine zlr rfl 55 (.tmp 3) rfl _ rfl 55 (frC A B).toArray (B1) _ Try.underlying55 rfl 128 Try.size55 (by simp [frC_len]) ?_) | (go_at_call 134; refine (HC.out _).mono ?_; rintro e W2 ⟨rfl, hW2⟩; replace B0 := B0.zw hW2; replace B1 := B1.zw hW2; replace B2 := B2.zw hW2; replace hb := (hb).trans (hW2.mono (hb).size)))
    clear hge
    have lt_B0 : (w.heap.size) < W2.heap.size := B0.lt
    have lt_B1 : (w.heap.size + 1) < W2.heap.size := B1.lt
    have lt_B2 : (w.heap.size + 1 + 1) < W2.heap.size := B2.lt
    refine zq Try.mixed (by kernel_rfl) (by kernel_rfl) (fun v => by (simp only [frL, Act.put, pA, pB, pC, Nat.reduceAdd, Nat.zero_add]; exact rfl))
     (fun L v W3 => Below W2.heap.size W2 W3 ∧ (L 12 = true → AF (v 12) W3 W2.heap.size 64 23) ∧ (L 13 = true → AF (v 13) W3 W2.heap.size 64 23) ∧ (L 14 = true → PF (v 12) W3 W2.heap.size 64 23 (rdQ p D A B)) ∧ (L 15 = true → PF (v 13) W3 W2.heap.size 64 23 (resP p (sqP p D B) A)) ∧ (L 12 = true → L 13 = true → v 12 ≠ v 13) ∧ VF L v [some (.pointer (some ⟨w.heap.size, 0, none⟩)), some (.int .i64 (p : Int)), some (.agg (fdC (p : Int) D).toArray), some (.pointer (some ⟨w.heap.size + 1, 64, none⟩)), some (.agg (zb 64 (B))), some (.agg (zb 64 (sqP p D B))), some (.pointer (some ⟨w.heap.size + 1, 0, none⟩)), some (.agg (zb 64 (A))), some (.tuple #[(.agg (zb 64 (rdQ p D A B))), (.agg (zb 64 (resP p (sqP p D B) A)))]), some (.tuple #[(.agg (zb 64 (rdQ p D A B))), (.agg (zb 64 (resP p (sqP p D B) A)))]), some (.agg (zb 64 (rdQ p D A B))), some (.agg (zb 64 (resP p (sqP p D B) A))), none, none, none, none]) ?_ ?_ ?_
    · intro v hv0
      exact ⟨(Below.refl _ W2).drew, (fun h => by cases h), (fun h => by cases h), (fun h => by cases h), (fun h => by cases h), (fun h => by cases h), VF.start⟩
    · refine (.cons rfl ?_ (.cons rfl ?_ (.cons rfl ?_ (.cons rfl ?_ (.cons rfl ?_ (.cons rfl ?_ (.cons rfl ?_ (.cons rfl ?_ (.cons rfl ?_ (.cons rfl ?_ (.cons rfl ?_ (.cons rfl ?_ (.cons rfl ?_ (.cons rfl ?_ (.cons rfl ?_ (.cons rfl ?_ (.nil _)))))))))))))))))
      all_goals intro L v W3 hd hn ⟨hY, h12, h13, h14, h15, d12_13, V⟩ K hK
      · go_wp2_with fail
        exact hK _ (.pointer (some ⟨w.heap.size, 0, none⟩)) _ (by simp only [Act.put, pA, pB, pC ]) ⟨hY, h12, h13, h14, h15, d12_13, V.step 0 rfl⟩
      · have e0 := V.at (zdq hd 0 rfl) rfl
        refine wp_load_rowc 2 _ rfl _ 0 e0 107 _ (B0.zw hY) (.int .i64 (p : Int)) (fdC_at _ _) _ Try.underlying2 rfl ?_
        exact hK _ _ _ rfl ⟨hY, h12, h13, h14, h15, d12_13, V.step 1 rfl⟩
      · refine wp_load_rowv 107 _ rfl _ rfl 107 _ (B0.zw hY) _ Try.underlying107 rfl 65 Try.size107 (by simp [fdC_len]) ?_
        exact hK _ _ _ rfl ⟨hY, h12, h13, h14, h15, d12_13, V.step 2 rfl⟩
      · go_wp2_with fail
        exact hK _ (.pointer (some ⟨w.heap.size + 1, 64, none⟩)) _ (by simp only [Act.put, pA, pB, pC ]) ⟨hY, h12, h13, h14, h15, d12_13, V.step 3 rfl⟩
      · have e3 := V.at (zdq hd 3 rfl) rfl
        refine wp_load_mid 23 _ rfl _ 64 e3 _ _ ((B1.zw hY).frb) Try.underlying23 rfl (by rw [zl]; exact Try.size23) ?_
        exact hK _ _ _ rfl ⟨hY, h12, h13, h14, h15, d12_13, V.step 4 rfl⟩
      · have e2 := V.at (zdq hd 2 rfl) rfl
        have e4 := V.at (zdq hd 4 rfl) rfl
        go_wp2_with (go_at_call 164; refine (H1.out _).mono ?_; rintro e wy ⟨rfl, hy⟩)
        exact hK _ (.agg (zb 64 (sqP p D B))) _ (by simp only [Act.put, pA, pB, pC, e2, e4]) ⟨hY.trans (hy.mono hY.size), (fun h => (h12 h).below hy), (fun h => (h13 h).below hy), (fun h => (h14 h).below hy), (fun h => (h15 h).below hy), d12_13, V.step 5 rfl⟩
      · go_wp2_with fail
        exact hK _ (.pointer (some ⟨w.heap.size + 1, 0, none⟩)) _ (by simp only [Act.put, pA, pB, pC ]) ⟨hY, h12, h13, h14, h15, d12_13, V.step 6 rfl⟩
      · have e6 := V.at (zdq hd 6 rfl) rfl
        refine wp_load_mid 23 _ rfl _ 0 e6 _ _ ((B1.zw hY).fra) Try.underlying23 rfl (by rw [zl]; exact Try.size23) ?_
        exact hK _ _ _ rfl ⟨hY, h12, h13, h14, h15, d12_13, V.step 7 rfl⟩
      · have e1 := V.at (zdq hd 1 rfl) rfl
        have e5 := V.at (zdq hd 5 rfl) rfl
        have e7 := V.at (zdq hd 7 rfl) rfl
        go_wp2_with (go_at_call 167; refine (H2.out _).mono ?_; rintro e wy ⟨rfl, hy⟩)
        exact hK _ (.tuple #[(.agg (zb 64 (rdQ p D A B))), (.agg (zb 64 (resP p (sqP p D B) A)))]) _ (by simp only [Act.put, pA, pB, pC, e1, e5, e7]) ⟨hY.trans (hy.mono hY.size), (fun h => (h12 h).below hy), (fun h => (h13 h).below hy), (fun h => (h14 h).below hy), (fun h => (h15 h).below hy), d12_13, V.step 8 rfl⟩
      · have e8 := V.at (zdq hd 8 rfl) rfl
        go_wp2_with fail
        exact hK _ (.tuple #[(.agg (zb 64 (rdQ p D A B))), (.agg (zb 64 (resP p (sqP p D B) A)))]) _ (by simp only [Act.put, pA, pB, pC, e8]) ⟨hY, h12, h13, h14, h15, d12_13, V.step 9 rfl⟩
      · have e9 := V.at (zdq hd 9 rfl) rfl
        go_wp2_with fail
        exact hK _ (.agg (zb 64 (rdQ p D A B))) _ (by simp only [Act.put, pA, pB, pC, e9]) ⟨hY, h12, h13, h14, h15, d12_13, V.step 10 rfl⟩
      · have e9 := V.at (zdq hd 9 rfl) rfl
        go_wp2_with fail
        exact hK _ (.agg (zb 64 (resP p (sqP p D B) A))) _ (by simp only [Act.put, pA, pB, pC, e9]) ⟨hY, h12, h13, h14, h15, d12_13, V.step 11 rfl⟩
      · go_wp2_with fail
        rw [← z64]
        exact hK _ (.pointer (some ⟨W3.heap.size, 0, none⟩)) _ (by simp only [Act.put, pA, pB, pC ]) ⟨hY.alloc hY.size _, (fun _ => (PF.new W3 64 23 _ hY.size).af), (fun h => (h13 h).below (zal _ _)), (fun h => absurd rfl (hn 14 _ rfl h ⟨12, .data⟩ (by simp) rfl)), (fun h => (h15 h).below (zal _ _)), (fun h g1 => Ne.symm ((h13 g1).ne_new)), V.skip 12 rfl⟩
      · go_wp2_with fail
        rw [← z64]
        exact hK _ (.pointer (some ⟨W3.heap.size, 0, none⟩)) _ (by simp only [Act.put, pA, pB, pC ]) ⟨hY.alloc hY.size _, (fun h => (h12 h).below (zal _ _)), (fun _ => (PF.new W3 64 23 _ hY.size).af), (fun h => (h14 h).below (zal _ _)), (fun h => absurd rfl (hn 15 _ rfl h ⟨13, .data⟩ (by simp) rfl)), (fun h g1 => (h12 h).ne_new), V.skip 13 rfl⟩
      · have e10 := V.at (zdq hd 10 rfl) rfl
        obtain ⟨gz, b, ea, hN, hk⟩ := (h12 (zdq hd 12 rfl)).out
        refine zsb 23 _ _ rfl b 64 (rdQ p D A B) ea e10 23 gz hk Try.size23 ?_
        exact hK _ undef _ rfl ⟨zr hY hN _, (fun h => (h12 h).row hk), (fun h => (h13 h).row hk), (fun _ => by rw [show updV v 14 undef 12 = v 12 from rfl, ea]; exact PF.row hk hN _), (fun h => (h15 h).rowOther (by rw [← ea]; exact (Ne.symm (d12_13 (zdq hd 12 rfl) (zdq hd 13 rfl))))), d12_13, V.skip 14 rfl⟩
      · have e11 := V.at (zdq hd 11 rfl) rfl
        obtain ⟨gz, b, ea, hN, hk⟩ := (h13 (zdq hd 13 rfl)).out
        refine zsb 23 _ _ rfl b 64 (resP p (sqP p D B) A) ea e11 23 gz hk Try.size23 ?_
        exact hK _ undef _ rfl ⟨zr hY hN _, (fun h => (h12 h).row hk), (fun h => (h13 h).row hk), (fun h => (h14 h).rowOther (by rw [← ea]; exact (d12_13 (zdq hd 12 rfl) (zdq hd 13 rfl)))), (fun _ => by rw [show updV v 15 undef 13 = v 13 from rfl, ea]; exact PF.row hk hN _), d12_13, V.skip 15 rfl⟩
    · intro L v W3 hL ⟨hY, h12, h13, h14, h15, d12_13, V⟩
      obtain ⟨k2_12, e12, hNk2_12, hk2_12⟩ := (h14 (hL 14 (by decide))).out
      obtain ⟨k2_13, e13, hNk2_13, hk2_13⟩ := (h15 (hL 15 (by decide))).out
      have n12_13 := d12_13 (hL 12 (by decide)) (hL 13 (by decide))
      have e0 := V.at (hL 0 (by decide)) rfl
      have e1 := V.at (hL 1 (by decide)) rfl
      have e2 := V.at (hL 2 (by decide)) rfl
      have e3 := V.at (hL 3 (by decide)) rfl
      have e4 := V.at (hL 4 (by decide)) rfl
      have e5 := V.at (hL 5 (by decide)) rfl
      have e6 := V.at (hL 6 (by decide)) rfl
      have e7 := V.at (hL 7 (by decide)) rfl
      have e8 := V.at (hL 8 (by decide)) rfl
      have e9 := V.at (hL 9 (by decide)) rfl
      have e10 := V.at (hL 10 (by decide)) rfl
      have e11 := V.at (hL 11 (by decide)) rfl
      clear hL h12 h13 h14 h15 d12_13 V
      replace B0 := B0.zw hY
      replace B1 := B1.zw hY
      replace B2 := B2.zw hY
      replace hb := hb.trans (hY.mono hb.size)
      clear hY
      rw [e12, e13] at n12_13
      have mk2_12_13 : k2_12 ≠ k2_13 := fun h => n12_13 (by rw [h])
      clear n12_13
      simp only [Exit.then, e12, e13, e0, e1, e2, e3, e4, e5, e6, e7, e8, e9, e10, e11]
      clear e12 e13 e0 e1 e2 e3 e4 e5 e6 e7 e8 e9 e10 e11
      have B3 := hk2_12
      clear hk2_12
      have zk2_12_0 : w.heap.size < k2_12 := by omega
      have zk2_12_1 : w.heap.size + 1 < k2_12 := by omega
      have zk2_12_2 : w.heap.size + 1 + 1 < k2_12 := by omega
      have B4 := hk2_13
      clear hk2_13
      have zk2_13_0 : w.heap.size < k2_13 := by omega
      have zk2_13_1 : w.heap.size + 1 < k2_13 := by omega
      have zk2_13_2 : w.heap.size + 1 + 1 < k2_13 := by omega
      clear lt_B0 lt_B1 lt_B2
      go_upto_region 3 with (fail)
      have lt_B0 := B0.lt
      have lt_B1 := B1.lt
      have lt_B2 := B2.lt
      have lt_B3 := B3.lt
      have lt_B4 := B4.lt
      go_wp2_with (first | rw [← z64] | (refine wpList_load_rowc rfl 2 (.tmp 23) rfl _ 0 rfl 107 _ (B0) (.int .i64 (p : Int)) (fdC_at _ _) _ Try.underlying2 rfl ?_) | (refine zla (.tmp 5) B3 Try.underlying23 Try.size23 ?_) | (go_at_call 168; refine (H3.out _).mono ?_; rintro e W4 ⟨rfl, hW4⟩; replace B0 := B0.zw hW4; replace B1 := B1.zw hW4; replace B2 := B2.zw hW4; replace B3 := B3.zw hW4; replace B4 := B4.zw hW4; replace hb := (hb).trans (hW4.mono (hb).size)) | (refine wpList_store_part rfl 23 (.tmp 27) (.tmp 26) rfl _ 0 (rdA p D A B) rfl rfl 55 _ (frC (rdA p D A B) B).toArray (B1) (frC_a _ _ _) (by first | decide | simp [frC_len]) Try.size23 ?_; try simp only [Act.put]))
      obtain ⟨W5, hwo, hzQ⟩ : ∃ v : World, v = (W4.setRow (w.heap.size + 1) (frC (rdA p D A B) B).toArray) ∧ Row v (w.heap.size) 107 (fdC (p : Int) D).toArray ∧ Row v (w.heap.size + 1) 55 (frC (rdA p D A B) B).toArray ∧ Row v (w.heap.size + 1 + 1) 55 (frC (fun _ => 0) (fun _ => 0)).toArray ∧ Blk v (k2_12) 64 23 (rdQ p D A B) ∧ Blk v (k2_13) 64 23 (resP p (sqP p D B) A) ∧ Below w.heap.size w v := ⟨_, rfl, (B0.rowOther (by omega)), (B1.row (frC (rdA p D A B) B).toArray), (B2.rowOther (by omega)), (B3.rowOther (by omega)), (B4.rowOther (by omega)), (zr hb (by omega) _)⟩
      rw [← hwo]
      clear hwo B0 B1 B2 B3 B4 hb
      obtain ⟨B0, B1, B2, B3, B4, hb⟩ := hzQ
      try simp only [Act.put, pA, pB, pC]
      have lt_B0 : (w.heap.size) < W5.heap.size := B0.lt
      have lt_B1 : (w.heap.size + 1) < W5.heap.size := B1.lt
      have lt_B2 : (w.heap.size + 1 + 1) < W5.heap.size := B2.lt
      have lt_B3 : (k2_12) < W5.heap.size := B3.lt
      have lt_B4 : (k2_13) < W5.heap.size := B4.lt
      have hbase : w.heap.size ≤ W5.heap.size := hb.size
      refine zq Try.mixed (by kernel_rfl) (by kernel_rfl) (fun v => by (simp only [frL, Act.put, pA, pB, pC, Nat.reduceAdd, Nat.zero_add]; exact rfl))
       (fun L v W6 => Below w.heap.size w W6 ∧ Kx [w.heap.size + 1] W5 W6 ∧ (∃ g : Array Value, g.size = 128 ∧ Row W6 (w.heap.size + 1) 55 (g)) ∧ (L 10 = false → Row W6 (w.heap.size + 1) 55 ((frC (rdA p D A B) B).toArray)) ∧ (L 10 = true → Row W6 (w.heap.size + 1) 55 ((frC (rdA p D A B) (rdB p D A B)).toArray)) ∧ VF L v [some (.pointer (some ⟨w.heap.size, 0, none⟩)), some (.int .i64 (p : Int)), some (.agg (fdC (p : Int) D).toArray), some (.agg (frC (rdA p D A B) B).toArray), some (.agg (frC (rdA p D A B) (ngP p B)).toArray), some (.agg (zb 64 (ngP p B))), some (.pointer (some ⟨w.heap.size + 1, 0, none⟩)), some (.agg (zb 64 ((rdA p D A B)))), some (.agg (zb 64 (rdB p D A B))), some (.pointer (some ⟨w.heap.size + 1, 64, none⟩)), none]) ?_ ?_ ?_
      · intro v hv0
        exact ⟨hb.drew, Kx.start _ _, ⟨_, by simp [frC_len], B1.drew⟩, (fun _ => B1.drew), (fun h => by cases h), VF.start⟩
      · refine (.cons rfl ?_ (.cons rfl ?_ (.cons rfl ?_ (.cons rfl ?_ (.cons rfl ?_ (.cons rfl ?_ (.cons rfl ?_ (.cons rfl ?_ (.cons rfl ?_ (.cons rfl ?_ (.cons rfl ?_ (.nil _))))))))))))
        all_goals intro L v W6 hd hn ⟨hB, hX, x1, q1, n1, V⟩ K hK
        · go_wp2_with fail
          exact hK _ (.pointer (some ⟨w.heap.size, 0, none⟩)) _ (by simp only [Act.put, pA, pB, pC ]) ⟨hB, hX, x1, q1, n1, V.step 0 rfl⟩
        · have e0 := V.at (zdq hd 0 rfl) rfl
          refine wp_load_rowc 2 _ rfl _ 0 e0 107 _ (B0.kx hX (by simp <;> omega)) (.int .i64 (p : Int)) (fdC_at _ _) _ Try.underlying2 rfl ?_
          exact hK _ _ _ rfl ⟨hB, hX, x1, q1, n1, V.step 1 rfl⟩
        · refine wp_load_rowv 107 _ rfl _ rfl 107 _ (B0.kx hX (by simp <;> omega)) _ Try.underlying107 rfl 65 Try.size107 (by simp [fdC_len]) ?_
          exact hK _ _ _ rfl ⟨hB, hX, x1, q1, n1, V.step 2 rfl⟩
        · have s1 := q1 (by
           cases hL : L 10 with
           | false => rfl
           | true => exact absurd rfl (hn 10 _ rfl hL ⟨3, .phase⟩ (by simp) rfl))
          refine wp_load_rowv 55 _ rfl _ rfl 55 _ s1 _ Try.underlying55 rfl 128 Try.size55 (by simp [frC_len]) ?_
          exact hK _ _ _ rfl ⟨hB, hX, x1, q1, n1, V.step 3 rfl⟩
        · have e2 := V.at (zdq hd 2 rfl) rfl
          have e3 := V.at (zdq hd 3 rfl) rfl
          go_wp2_with (go_at_call 137; refine (H4.out _).mono ?_; rintro e wy ⟨rfl, hy⟩)
          exact hK _ (.agg (frC (rdA p D A B) (ngP p B)).toArray) _ (by simp only [Act.put, pA, pB, pC, e2, e3]) ⟨hB.trans (hy.mono hB.size), hX.below hy, (let ⟨g, hg, h⟩ := x1; ⟨g, hg, h.zw hy⟩), (fun h => (q1 h).below hy (q1 h).lt), (fun h => (n1 h).below hy (n1 h).lt), V.step 4 rfl⟩
        · have e4 := V.at (zdq hd 4 rfl) rfl
          refine wp_field_b 55 _ rfl (rdA p D A B) (ngP p B) e4 (run_field_b 55 23 _ _ _ _ Try.underlying55 ⟨rfl, rfl⟩ _ Try.underlying23 rfl Try.size23 _) ?_
          exact hK _ _ _ rfl ⟨hB, hX, x1, q1, n1, V.step 5 rfl⟩
        · go_wp2_with fail
          exact hK _ (.pointer (some ⟨w.heap.size + 1, 0, none⟩)) _ (by simp only [Act.put, pA, pB, pC ]) ⟨hB, hX, x1, q1, n1, V.step 6 rfl⟩
        · have e6 := V.at (zdq hd 6 rfl) rfl
          have s1 := q1 (by
           cases hL : L 10 with
           | false => rfl
           | true => exact absurd rfl (hn 10 _ rfl hL ⟨7, .phase⟩ (by simp) rfl))
          refine wp_load_mid 23 _ rfl _ 0 e6 _ _ (s1.fra) Try.underlying23 rfl (by rw [zl]; exact Try.size23) ?_
          exact hK _ _ _ rfl ⟨hB, hX, x1, q1, n1, V.step 7 rfl⟩
        · have e1 := V.at (zdq hd 1 rfl) rfl
          have e5 := V.at (zdq hd 5 rfl) rfl
          have e7 := V.at (zdq hd 7 rfl) rfl
          go_wp2_with (go_at_call 150; refine (H5.out _).mono ?_; rintro e wy ⟨rfl, hy⟩)
          exact hK _ (.agg (zb 64 (rdB p D A B))) _ (by simp only [Act.put, pA, pB, pC, e1, e5, e7]) ⟨hB.trans (hy.mono hB.size), hX.below hy, (let ⟨g, hg, h⟩ := x1; ⟨g, hg, h.zw hy⟩), (fun h => (q1 h).below hy (q1 h).lt), (fun h => (n1 h).below hy (n1 h).lt), V.step 8 rfl⟩
        · go_wp2_with fail
          exact hK _ (.pointer (some ⟨w.heap.size + 1, 64, none⟩)) _ (by simp only [Act.put, pA, pB, pC ]) ⟨hB, hX, x1, q1, n1, V.step 9 rfl⟩
        · have e9 := V.at (zdq hd 9 rfl) rfl
          have e8 := V.at (zdq hd 8 rfl) rfl
          obtain ⟨gz, hgz, hk, hg⟩ : ∃ gz : Array Value, gz.size = 128 ∧ Row W6 (w.heap.size + 1) 55 gz ∧ ((bl 64 (rdB p D A B)).zipIdx 0).foldl (fun (c : Array Value) (z : Value × Nat) => c.setIfInBounds (64 + z.2) z.1) gz = ((frC (rdA p D A B) (rdB p D A B)).toArray) := by
           cases hL : L 10 with
           | false => exact ⟨_, by simp [frC_len], q1 hL, (frC_b _ _ _)⟩
           | true => exact ⟨_, by simp [frC_len], n1 hL, (frC_b _ _ _)⟩
          refine wp_store_part 23 _ _ rfl _ 64 (rdB p D A B) e9 e8 55 gz ((frC (rdA p D A B) (rdB p D A B)).toArray) hk hg (by omega) Try.size23 ?_
          exact hK _ undef _ rfl ⟨zr hB (by omega) _, hX.row (by simp) _, ⟨_, by simp [frC_len], hk.row _⟩, (fun h => absurd h (by simp [setL])), (fun _ => hk.row _), V.skip 10 rfl⟩
      · intro L v W6 hL ⟨hB, hX, x1, q1, n1, V⟩
        have r1 := n1 (hL 10 (by decide))
        have e0 := V.at (hL 0 (by decide)) rfl
        have e1 := V.at (hL 1 (by decide)) rfl
        have e2 := V.at (hL 2 (by decide)) rfl
        have e3 := V.at (hL 3 (by decide)) rfl
        have e4 := V.at (hL 4 (by decide)) rfl
        have e5 := V.at (hL 5 (by decide)) rfl
        have e6 := V.at (hL 6 (by decide)) rfl
        have e7 := V.at (hL 7 (by decide)) rfl
        have e8 := V.at (hL 8 (by decide)) rfl
        have e9 := V.at (hL 9 (by decide)) rfl
        clear hL x1 q1 n1 V
        replace B0 := B0.kx hX (by simp <;> omega)
        replace B2 := B2.kx hX (by simp <;> omega)
        replace B3 := B3.kx hX (by simp <;> omega)
        replace B4 := B4.kx hX (by simp <;> omega)
        clear hX
        simp only [Exit.then, e0, e1, e2, e3, e4, e5, e6, e7, e8, e9]
        clear e0 e1 e2 e3 e4 e5 e6 e7 e8 e9
        replace B1 := r1
        clear r1
        replace hb := hB
        clear hB
        clear hbase lt_B0 lt_B1 lt_B2 lt_B3 lt_B4
        go_wp2_with fail
        go_roundw
        case rel => exact ⟨fu, _, _, hI2, hb, B0, B1, B2⟩
        case measure => rw [degAt_row B1, degAt_row BFo.out]; have h1 := HM.out; have h2 := HDA.out; omega
set_option maxRecDepth 100000 in
set_option maxHeartbeats 3200000 in
theorem l07Reduce_any (p g : Nat) (D Ao Bo : Nat → Nat) (w : World) (hpr : p = 2 ∨ p = 3 ∨ p = 5 ∨ p = 7) (lD : ∀ k, k < 64 → D k < p) (hD : deg D = ((2 * g + 1 : Nat) : Int)) (hf : fmI p D Ao Bo) :
 Calls Try.prog 128 #[.int .i64 (p : Int), .agg (zb 64 D), .agg (frC Ao Bo).toArray] w fun e w' => e = .returned (.agg (frC (rdR p D g 64 Ao Bo).1 (rdR p D g 64 Ao Bo).2).toArray) ∧ Below w.heap.size w w' := by
 have p0 : 0 < p := by omega
 have p2 : 2 ≤ p := by omega
 have p7 : p ≤ 7 := by omega
 have hA64 : deg Ao ≤ 63 := (zdb Ao).2
 obtain ⟨V, hV⟩ : ∃ V, V = rdR p D g 64 Ao Bo := ⟨_, rfl⟩
 rw [← hV]
 have HI0 := Lib.hid (show rdR p D g 64 Ao Bo = V ∧ deg Ao ≤ ((64 : Nat) : Int) ∧ fmI p D Ao Bo from ⟨hV.symm, by omega, hf⟩)
 have HST := Lib.hid (fun A B (h : fmI p D A B) => rd_step (A := A) (B := B) hpr lD hD h)
 have HGN := Lib.hid (fun W => l07Genus_any g D W hD)
 have HLS := Lib.hid (fun A B (h : fmI p D A B) W => l07Square_any p D B W p2 p7 lD h.2.1 (fmI_deg h).2.2)
 have HQR := Lib.hid (fun A B (h : fmI p D A B) => show ∀ W, Calls Try.prog 155 #[.int .i64 (p : Int), .agg (zb 64 (addK p (prd p B B) D (-1))), .agg (zb 64 A)] W fun e w' => e = .returned (.tuple #[.agg (zb 64 (rsQ p D A B)), .agg (zb 64 (resP p (addK p (prd p B B) D (-1)) A))]) ∧ Below W.heap.size W w' from fun W => by
  have := l01Divide_any p (addK p (prd p B B) D (-1)) A W hpr (fun k _ => addK_lt p0 k) h.1 (fmI_deg h).1
  rw [rsQ_eq] at this; exact this)
 have HMM := Lib.hid (fun A B (h : fmI p D A B) (hn : (g : Int) < deg A) => show ∀ W, Calls Try.prog 166 #[.int .i64 (p : Int), .agg (zb 64 (rsQ p D A B))] W fun e w' => e = .returned (.agg (zb 64 (rdA p D A B))) ∧ Below W.heap.size W w' from fun W => by
  obtain ⟨⟨j, hj⟩, hs⟩ := rs_step hpr lD hD h
  have := l07Monic_any p j (rsQ p D A B) W hpr (rsQ_lt p0) hj
  rw [zbc hs] at this; exact this)
 have HRO := Lib.hid (fun A B (h : fmI p D A B) (hn : (g : Int) < deg A) => show ∀ W, Calls Try.prog 136 #[.int .i64 (p : Int), .agg (zb 64 B), .agg (zb 64 (rdA p D A B))] W fun e w' => e = .returned (.agg (zb 64 (rdB p D A B))) ∧ Below W.heap.size W w' from fun W => by
  obtain ⟨hs, _, _⟩ := rd_step hpr lD hD h hn
  have := l07Opposite_any p B (rdA p D A B) W hpr h.2.1 hs.1 (fmI_deg hs).1
  rw [rdB_eq] at this; exact this)
 clear hf hV hD lD hA64
 go_enter Try.func128, Try.ntmps128
 go_upto_region 1 with (fail)
 rw [← frC_zero]
 obtain ⟨W1, hwo⟩ : ∃ v : World, v = (((w.alloc (.cells (zb 64 (D)) 23)).alloc (.cells (frC Ao Bo).toArray 55)).alloc (.cells (frC (fun _ => 0) (fun _ => 0)).toArray 55)) := ⟨_, rfl⟩
 have B0 : Blk W1 (w.heap.size) 64 23 (D) := by subst hwo; have := (((Blk.new w 64 23 (D)).alloc (.cells (frC Ao Bo).toArray 55)).alloc (.cells (frC (fun _ => 0) (fun _ => 0)).toArray 55)); simpa using this
 have B1 : Row W1 (w.heap.size + 1) 55 (frC Ao Bo).toArray := by subst hwo; have := ((Row.new (w.alloc (.cells (zb 64 (D)) 23)) 55 (frC Ao Bo).toArray).alloc (.cells (frC (fun _ => 0) (fun _ => 0)).toArray 55)); simpa using this
 have B2 : Row W1 (w.heap.size + 1 + 1) 55 (frC (fun _ => 0) (fun _ => 0)).toArray := by subst hwo; have := (Row.new ((w.alloc (.cells (zb 64 (D)) 23)).alloc (.cells (frC Ao Bo).toArray 55)) 55 (frC (fun _ => 0) (fun _ => 0)).toArray); simpa using this
 have hb : Below w.heap.size w W1 := by subst hwo; exact ((((Below.refl _ _).alloc (Nat.le_refl _) _).alloc (by simp) _).alloc (by simp; omega) _)
 rw [← hwo]
 clear hwo
 go_wp2_with fail
 go_loopw [9] (fun c wr => ∃ (fu : Nat) (A B : Nat → Nat), Hid (rdR p D g fu A B = V ∧ deg A ≤ (fu : Int) ∧ fmI p D A B) ∧ Below w.heap.size w wr ∧ Blk wr (w.heap.size) 64 23 D ∧ Row wr (w.heap.size + 1) 55 (frC A B).toArray ∧ Row wr (w.heap.size + 1 + 1) 55 (frC (fun _ => 0) (fun _ => 0)).toArray) (fun _ wr => degAt wr (w.heap.size + 1))
 case atStart => exact ⟨64, _, _, HI0, hb, B0, B1, B2⟩
 case round =>
  clear hb B0 B1 B2 HI0
  obtain ⟨fu, A, B, hI, hb, B0, B1, B2⟩ := hrel
  have BFo := Lib.hid B1
  by_cases hge : deg A ≤ (g : Int)
  · obtain ⟨i1, _, _⟩ := hI.out
    have HV := Lib.hid (show (A, B) = V by rw [← i1, rdR_stop hge])
    clear i1 hI
    go_upto_region 1 with (fail)
    refine zq Try.mixed (by kernel_rfl) (by kernel_rfl) (fun v => by (simp only [frL, Act.put, pA, pB, pC, Nat.reduceAdd, Nat.zero_add]; exact rfl))
     (fun L v W2 => Below wr.heap.size wr W2 ∧ VF L v [some (.pointer (some ⟨w.heap.size + 1, 0, none⟩)), some (.agg (zb 64 (A))), some (.int .i64 (deg A)), some (.agg (zb 64 (D))), some (.int .i64 (g : Int)), some (.bool false)]) ?_ ?_ ?_
    · intro v hv0
      exact ⟨(Below.refl _ wr).drew, VF.start⟩
    · refine (.cons rfl ?_ (.cons rfl ?_ (.cons rfl ?_ (.cons rfl ?_ (.cons rfl ?_ (.cons rfl ?_ (.nil _)))))))
      all_goals intro L v W2 hd hn ⟨hY, V⟩ K hK
      · go_wp2_with fail
        exact hK _ (.pointer (some ⟨w.heap.size + 1, 0, none⟩)) _ (by simp only [Act.put, pA, pB, pC ]) ⟨hY, V.step 0 rfl⟩
      · have e0 := V.at (zdq hd 0 rfl) rfl
        refine wp_load_mid 23 _ rfl _ 0 e0 _ _ ((B1.zw hY).fra) Try.underlying23 rfl (by rw [zl]; exact Try.size23) ?_
        exact hK _ _ _ rfl ⟨hY, V.step 1 rfl⟩
      · have e1 := V.at (zdq hd 1 rfl) rfl
        go_wp2_with (go_at_call 88; refine (l01Deg_any A _).mono ?_; rintro e wy ⟨rfl, hy⟩)
        exact hK _ (.int .i64 (deg A)) _ (by simp only [Act.put, pA, pB, pC, e1]) ⟨hY.trans (hy.mono hY.size), V.step 2 rfl⟩
      · refine zlc (B0.zw hY) Try.underlying23 Try.size23 ?_
        exact hK _ _ _ rfl ⟨hY, V.step 3 rfl⟩
      · have e3 := V.at (zdq hd 3 rfl) rfl
        go_wp2_with (go_at_call 165; refine (HGN.out _).mono ?_; rintro e wy ⟨rfl, hy⟩)
        exact hK _ (.int .i64 (g : Int)) _ (by simp only [Act.put, pA, pB, pC, e3]) ⟨hY.trans (hy.mono hY.size), V.step 4 rfl⟩
      · have e2 := V.at (zdq hd 2 rfl) rfl
        have e4 := V.at (zdq hd 4 rfl) rfl
        go_wp2_with fail
        try rw [show decide ((g : Int) < deg A) = false by simp; omega]
        try rw [show decide (deg A > (g : Int)) = false by simp; omega]
        exact hK _ (.bool false) _ (by simp only [Act.put, pA, pB, pC, e2, e4]) ⟨hY, V.step 5 rfl⟩
    · intro L v W2 hL ⟨hY, V⟩
      have e0 := V.at (hL 0 (by decide)) rfl
      have e1 := V.at (hL 1 (by decide)) rfl
      have e2 := V.at (hL 2 (by decide)) rfl
      have e3 := V.at (hL 3 (by decide)) rfl
      have e4 := V.at (hL 4 (by decide)) rfl
      have e5 := V.at (hL 5 (by decide)) rfl
      clear hL V
      replace B0 := B0.zw hY
      replace B1 := B1.zw hY
      replace B2 := B2.zw hY
      replace hb := hb.trans (hY.mono hb.size)
      clear hY
      simp only [Exit.then, e0, e1, e2, e3, e4, e5]
      clear e0 e1 e2 e3 e4 e5
      go_upto_region 5 with (fail)
      clear hge
      have lt_B0 := B0.lt
      have lt_B1 := B1.lt
      have lt_B2 := B2.lt
      go_wp2_with (first | rw [← z64] | (refine zlr rfl 55 (.tmp 5) rfl _ rfl 55 (frC A B).toArray (B1) _ Try.underlying55 rfl 128 Try.size55 (by simp [frC_len]) ?_) | (refine wpList_store_rowv rfl 55 (.tmp 6) (.tmp 38) rfl _ rfl (frC A B).toArray rfl 55 _ (B2) 128 Try.size55 (by simp [frC_len]) (by simp [frC_len]) (frC_all _ _) ?_; try simp only [Act.put]))
      obtain ⟨W3, hwo, hzQ⟩ : ∃ v : World, v = (W2.setRow (w.heap.size + 1 + 1) (frC A B).toArray) ∧ Blk v (w.heap.size) 64 23 (D) ∧ Row v (w.heap.size + 1) 55 (frC A B).toArray ∧ Row v (w.heap.size + 1 + 1) 55 (frC A B).toArray ∧ Below w.heap.size w v := ⟨_, rfl, (B0.rowOther (by omega)), (B1.rowOther (by omega)), (B2.row (frC A B).toArray), (zr hb (by omega) _)⟩
      rw [← hwo]
      clear hwo B0 B1 B2 hb
      obtain ⟨B0, B1, B2, hb⟩ := hzQ
      try simp only [Act.put, pA, pB, pC]
      refine bodyPost_ret (results_row rfl _ _ _ _ _ rfl B2 _ Try.underlying55 rfl (by rw [Try.size55]; simp [frC_len])) rfl ⟨by rw [← HV.out], hb⟩
  · obtain ⟨i1, i2, i3⟩ := hI.out
    have hgl : (g : Int) < deg A := by omega
    obtain ⟨s1, s2, _⟩ := HST.out A B i3 hgl
    obtain ⟨fu, rfl⟩ : ∃ x, fu = x + 1 := ⟨fu - 1, by omega⟩
    have hI2 := Lib.hid (show rdR p D g fu (rdA p D A B) (rdB p D A B) = V ∧ deg (rdA p D A B) ≤ (fu : Int) ∧ fmI p D (rdA p D A B) (rdB p D A B) from ⟨by rw [← i1, rdR_go hge], by omega, s1⟩)
    have HM := Lib.hid s2
    have HDA := Lib.hid (fmI_deg i3).1
    have H1 := Lib.hid (HLS.out A B i3)
    have H2 := Lib.hid (HQR.out A B i3)
    have H3 := Lib.hid (HMM.out A B i3 hgl)
    have H5 := Lib.hid (HRO.out A B i3 hgl)
    clear i1 i2 i3 s1 s2 hI hgl
    go_upto_region 1 with (fail)
    refine zq Try.mixed (by kernel_rfl) (by kernel_rfl) (fun v => by (simp only [frL, Act.put, pA, pB, pC, Nat.reduceAdd, Nat.zero_add]; exact rfl))
     (fun L v W2 => Below wr.heap.size wr W2 ∧ VF L v [some (.pointer (some ⟨w.heap.size + 1, 0, none⟩)), some (.agg (zb 64 (A))), some (.int .i64 (deg A)), some (.agg (zb 64 (D))), some (.int .i64 (g : Int)), some (.bool true)]) ?_ ?_ ?_
    · intro v hv0
      exact ⟨(Below.refl _ wr).drew, VF.start⟩
    · refine (.cons rfl ?_ (.cons rfl ?_ (.cons rfl ?_ (.cons rfl ?_ (.cons rfl ?_ (.cons rfl ?_ (.nil _)))))))
      all_goals intro L v W2 hd hn ⟨hY, V⟩ K hK
      · go_wp2_with fail
        exact hK _ (.pointer (some ⟨w.heap.size + 1, 0, none⟩)) _ (by simp only [Act.put, pA, pB, pC ]) ⟨hY, V.step 0 rfl⟩
      · have e0 := V.at (zdq hd 0 rfl) rfl
        refine wp_load_mid 23 _ rfl _ 0 e0 _ _ ((B1.zw hY).fra) Try.underlying23 rfl (by rw [zl]; exact Try.size23) ?_
        exact hK _ _ _ rfl ⟨hY, V.step 1 rfl⟩
      · have e1 := V.at (zdq hd 1 rfl) rfl
        go_wp2_with (go_at_call 88; refine (l01Deg_any A _).mono ?_; rintro e wy ⟨rfl, hy⟩)
        exact hK _ (.int .i64 (deg A)) _ (by simp only [Act.put, pA, pB, pC, e1]) ⟨hY.trans (hy.mono hY.size), V.step 2 rfl⟩
      · refine zlc (B0.zw hY) Try.underlying23 Try.size23 ?_
        exact hK _ _ _ rfl ⟨hY, V.step 3 rfl⟩
      · have e3 := V.at (zdq hd 3 rfl) rfl
        go_wp2_with (go_at_call 165; refine (HGN.out _).mono ?_; rintro e wy ⟨rfl, hy⟩)
        exact hK _ (.int .i64 (g : Int)) _ (by simp only [Act.put, pA, pB, pC, e3]) ⟨hY.trans (hy.mono hY.size), V.step 4 rfl⟩
      · have e2 := V.at (zdq hd 2 rfl) rfl
        have e4 := V.at (zdq hd 4 rfl) rfl
        go_wp2_with fail
        try rw [show decide ((g : Int) < deg A) = true by simp; omega]
        try rw [show decide (deg A > (g : Int)) = true by simp; omega]
        exact hK _ (.bool true) _ (by simp only [Act.put, pA, pB, pC, e2, e4]) ⟨hY, V.step 5 rfl⟩
    · intro L v W2 hL ⟨hY, V⟩
      have e0 := V.at (hL 0 (by decide)) rfl
      have e1 := V.at (hL 1 (by decide)) rfl
      have e2 := V.at (hL 2 (by decide)) rfl
      have e3 := V.at (hL 3 (by decide)) rfl
      have e4 := V.at (hL 4 (by decide)) rfl
      have e5 := V.at (hL 5 (by decide)) rfl
      clear hL V
      replace B0 := B0.zw hY
      replace B1 := B1.zw hY
      replace B2 := B2.zw hY
      replace hb := hb.trans (hY.mono hb.size)
      clear hY
      simp only [Exit.then, e0, e1, e2, e3, e4, e5]
      clear e0 e1 e2 e3 e4 e5
      go_upto_region 2 with (fail)
      clear hge
      have lt_B0 : (w.heap.size) < W2.heap.size := B0.lt
      have lt_B1 : (w.heap.size + 1) < W2.heap.size := B1.lt
      have lt_B2 : (w.heap.size + 1 + 1) < W2.heap.size := B2.lt
      refine zq Try.mixed (by kernel_rfl) (by kernel_rfl) (fun v => by (simp only [frL, Act.put, pA, pB, pC, Nat.reduceAdd, Nat.zero_add]; exact rfl))
       (fun L v W3 => Below W2.heap.size W2 W3 ∧ (L 12 = true → AF (v 12) W3 W2.heap.size 64 23) ∧ (L 13 = true → AF (v 13) W3 W2.heap.size 64 23) ∧ (L 14 = true → PF (v 12) W3 W2.heap.size 64 23 (rsQ p D A B)) ∧ (L 15 = true → PF (v 13) W3 W2.heap.size 64 23 (resP p (addK p (prd p B B) D (-1)) A)) ∧ (L 12 = true → L 13 = true → v 12 ≠ v 13) ∧ VF L v [some (.int .i64 (p : Int)), some (.int .i64 (p : Int)), some (.agg (zb 64 (D))), some (.pointer (some ⟨w.heap.size + 1, 64, none⟩)), some (.agg (zb 64 (B))), some (.agg (zb 64 (addK p (prd p B B) D (-1)))), some (.pointer (some ⟨w.heap.size + 1, 0, none⟩)), some (.agg (zb 64 (A))), some (.tuple #[(.agg (zb 64 (rsQ p D A B))), (.agg (zb 64 (resP p (addK p (prd p B B) D (-1)) A)))]), some (.tuple #[(.agg (zb 64 (rsQ p D A B))), (.agg (zb 64 (resP p (addK p (prd p B B) D (-1)) A)))]), some (.agg (zb 64 (rsQ p D A B))), some (.agg (zb 64 (resP p (addK p (prd p B B) D (-1)) A))), none, none, none, none]) ?_ ?_ ?_
      · intro v hv0
        exact ⟨(Below.refl _ W2).drew, (fun h => by cases h), (fun h => by cases h), (fun h => by cases h), (fun h => by cases h), (fun h => by cases h), VF.start⟩
      · refine (.cons rfl ?_ (.cons rfl ?_ (.cons rfl ?_ (.cons rfl ?_ (.cons rfl ?_ (.cons rfl ?_ (.cons rfl ?_ (.cons rfl ?_ (.cons rfl ?_ (.cons rfl ?_ (.cons rfl ?_ (.cons rfl ?_ (.cons rfl ?_ (.cons rfl ?_ (.cons rfl ?_ (.cons rfl ?_ (.nil _)))))))))))))))))
        all_goals intro L v W3 hd hn ⟨hY, h12, h13, h14, h15, d12_13, V⟩ K hK
        · go_wp2_with fail
          exact hK _ (.int .i64 (p : Int)) _ (by simp only [Act.put, pA, pB, pC ]) ⟨hY, h12, h13, h14, h15, d12_13, V.step 0 rfl⟩
        · go_wp2_with fail
          exact hK _ (.int .i64 (p : Int)) _ (by simp only [Act.put, pA, pB, pC ]) ⟨hY, h12, h13, h14, h15, d12_13, V.step 1 rfl⟩
        · refine zlc (B0.zw hY) Try.underlying23 Try.size23 ?_
          exact hK _ _ _ rfl ⟨hY, h12, h13, h14, h15, d12_13, V.step 2 rfl⟩
        · go_wp2_with fail
          exact hK _ (.pointer (some ⟨w.heap.size + 1, 64, none⟩)) _ (by simp only [Act.put, pA, pB, pC ]) ⟨hY, h12, h13, h14, h15, d12_13, V.step 3 rfl⟩
        · have e3 := V.at (zdq hd 3 rfl) rfl
          refine wp_load_mid 23 _ rfl _ 64 e3 _ _ ((B1.zw hY).frb) Try.underlying23 rfl (by rw [zl]; exact Try.size23) ?_
          exact hK _ _ _ rfl ⟨hY, h12, h13, h14, h15, d12_13, V.step 4 rfl⟩
        · have e1 := V.at (zdq hd 1 rfl) rfl
          have e2 := V.at (zdq hd 2 rfl) rfl
          have e4 := V.at (zdq hd 4 rfl) rfl
          go_wp2_with (go_at_call 163; refine (H1.out _).mono ?_; rintro e wy ⟨rfl, hy⟩)
          exact hK _ (.agg (zb 64 (addK p (prd p B B) D (-1)))) _ (by simp only [Act.put, pA, pB, pC, e1, e2, e4]) ⟨hY.trans (hy.mono hY.size), (fun h => (h12 h).below hy), (fun h => (h13 h).below hy), (fun h => (h14 h).below hy), (fun h => (h15 h).below hy), d12_13, V.step 5 rfl⟩
        · go_wp2_with fail
          exact hK _ (.pointer (some ⟨w.heap.size + 1, 0, none⟩)) _ (by simp only [Act.put, pA, pB, pC ]) ⟨hY, h12, h13, h14, h15, d12_13, V.step 6 rfl⟩
        · have e6 := V.at (zdq hd 6 rfl) rfl
          refine wp_load_mid 23 _ rfl _ 0 e6 _ _ ((B1.zw hY).fra) Try.underlying23 rfl (by rw [zl]; exact Try.size23) ?_
          exact hK _ _ _ rfl ⟨hY, h12, h13, h14, h15, d12_13, V.step 7 rfl⟩
        · have e0 := V.at (zdq hd 0 rfl) rfl
          have e5 := V.at (zdq hd 5 rfl) rfl
          have e7 := V.at (zdq hd 7 rfl) rfl
          go_wp2_with (go_at_call 155; refine (H2.out _).mono ?_; rintro e wy ⟨rfl, hy⟩)
          exact hK _ (.tuple #[(.agg (zb 64 (rsQ p D A B))), (.agg (zb 64 (resP p (addK p (prd p B B) D (-1)) A)))]) _ (by simp only [Act.put, pA, pB, pC, e0, e5, e7]) ⟨hY.trans (hy.mono hY.size), (fun h => (h12 h).below hy), (fun h => (h13 h).below hy), (fun h => (h14 h).below hy), (fun h => (h15 h).below hy), d12_13, V.step 8 rfl⟩
        · have e8 := V.at (zdq hd 8 rfl) rfl
          go_wp2_with fail
          exact hK _ (.tuple #[(.agg (zb 64 (rsQ p D A B))), (.agg (zb 64 (resP p (addK p (prd p B B) D (-1)) A)))]) _ (by simp only [Act.put, pA, pB, pC, e8]) ⟨hY, h12, h13, h14, h15, d12_13, V.step 9 rfl⟩
        · have e9 := V.at (zdq hd 9 rfl) rfl
          go_wp2_with fail
          exact hK _ (.agg (zb 64 (rsQ p D A B))) _ (by simp only [Act.put, pA, pB, pC, e9]) ⟨hY, h12, h13, h14, h15, d12_13, V.step 10 rfl⟩
        · have e9 := V.at (zdq hd 9 rfl) rfl
          go_wp2_with fail
          exact hK _ (.agg (zb 64 (resP p (addK p (prd p B B) D (-1)) A))) _ (by simp only [Act.put, pA, pB, pC, e9]) ⟨hY, h12, h13, h14, h15, d12_13, V.step 11 rfl⟩
        · go_wp2_with fail
          rw [← z64]
          exact hK _ (.pointer (some ⟨W3.heap.size, 0, none⟩)) _ (by simp only [Act.put, pA, pB, pC ]) ⟨hY.alloc hY.size _, (fun _ => (PF.new W3 64 23 _ hY.size).af), (fun h => (h13 h).below (zal _ _)), (fun h => absurd rfl (hn 14 _ rfl h ⟨12, .data⟩ (by simp) rfl)), (fun h => (h15 h).below (zal _ _)), (fun h g1 => Ne.symm ((h13 g1).ne_new)), V.skip 12 rfl⟩
        · go_wp2_with fail
          rw [← z64]
          exact hK _ (.pointer (some ⟨W3.heap.size, 0, none⟩)) _ (by simp only [Act.put, pA, pB, pC ]) ⟨hY.alloc hY.size _, (fun h => (h12 h).below (zal _ _)), (fun _ => (PF.new W3 64 23 _ hY.size).af), (fun h => (h14 h).below (zal _ _)), (fun h => absurd rfl (hn 15 _ rfl h ⟨13, .data⟩ (by simp) rfl)), (fun h g1 => (h12 h).ne_new), V.skip 13 rfl⟩
        · have e10 := V.at (zdq hd 10 rfl) rfl
          obtain ⟨gz, b, ea, hN, hk⟩ := (h12 (zdq hd 12 rfl)).out
          refine zsb 23 _ _ rfl b 64 (rsQ p D A B) ea e10 23 gz hk Try.size23 ?_
          exact hK _ undef _ rfl ⟨zr hY hN _, (fun h => (h12 h).row hk), (fun h => (h13 h).row hk), (fun _ => by rw [show updV v 14 undef 12 = v 12 from rfl, ea]; exact PF.row hk hN _), (fun h => (h15 h).rowOther (by rw [← ea]; exact (Ne.symm (d12_13 (zdq hd 12 rfl) (zdq hd 13 rfl))))), d12_13, V.skip 14 rfl⟩
        · have e11 := V.at (zdq hd 11 rfl) rfl
          obtain ⟨gz, b, ea, hN, hk⟩ := (h13 (zdq hd 13 rfl)).out
          refine zsb 23 _ _ rfl b 64 (resP p (addK p (prd p B B) D (-1)) A) ea e11 23 gz hk Try.size23 ?_
          exact hK _ undef _ rfl ⟨zr hY hN _, (fun h => (h12 h).row hk), (fun h => (h13 h).row hk), (fun h => (h14 h).rowOther (by rw [← ea]; exact (d12_13 (zdq hd 12 rfl) (zdq hd 13 rfl)))), (fun _ => by rw [show updV v 15 undef 13 = v 13 from rfl, ea]; exact PF.row hk hN _), d12_13, V.skip 15 rfl⟩
      · intro L v W3 hL ⟨hY, h12, h13, h14, h15, d12_13, V⟩
        obtain ⟨k2_12, e12, hNk2_12, hk2_12⟩ := (h14 (hL 14 (by decide))).out
        obtain ⟨k2_13, e13, hNk2_13, hk2_13⟩ := (h15 (hL 15 (by decide))).out
        have n12_13 := d12_13 (hL 12 (by decide)) (hL 13 (by decide))
        have e0 := V.at (hL 0 (by decide)) rfl
        have e1 := V.at (hL 1 (by decide)) rfl
        have e2 := V.at (hL 2 (by decide)) rfl
        have e3 := V.at (hL 3 (by decide)) rfl
        have e4 := V.at (hL 4 (by decide)) rfl
        have e5 := V.at (hL 5 (by decide)) rfl
        have e6 := V.at (hL 6 (by decide)) rfl
        have e7 := V.at (hL 7 (by decide)) rfl
        have e8 := V.at (hL 8 (by decide)) rfl
        have e9 := V.at (hL 9 (by decide)) rfl
        have e10 := V.at (hL 10 (by decide)) rfl
        have e11 := V.at (hL 11 (by decide)) rfl
        clear hL h12 h13 h14 h15 d12_13 V
        replace B0 := B0.zw hY
        replace B1 := B1.zw hY
        replace B2 := B2.zw hY
        replace hb := hb.trans (hY.mono hb.size)
        clear hY
        rw [e12, e13] at n12_13
        have mk2_12_13 : k2_12 ≠ k2_13 := fun h => n12_13 (by rw [h])
        clear n12_13
        simp only [Exit.then, e12, e13, e0, e1, e2, e3, e4, e5, e6, e7, e8, e9, e10, e11]
        clear e12 e13 e0 e1 e2 e3 e4 e5 e6 e7 e8 e9 e10 e11
        have B3 := hk2_12
        clear hk2_12
        have zk2_12_0 : w.heap.size < k2_12 := by omega
        have zk2_12_1 : w.heap.size + 1 < k2_12 := by omega
        have zk2_12_2 : w.heap.size + 1 + 1 < k2_12 := by omega
        have B4 := hk2_13
        clear hk2_13
        have zk2_13_0 : w.heap.size < k2_13 := by omega
        have zk2_13_1 : w.heap.size + 1 < k2_13 := by omega
        have zk2_13_2 : w.heap.size + 1 + 1 < k2_13 := by omega
        clear lt_B0 lt_B1 lt_B2
        go_upto_region 3 with (fail)
        have lt_B0 := B0.lt
        have lt_B1 := B1.lt
        have lt_B2 := B2.lt
        have lt_B3 := B3.lt
        have lt_B4 := B4.lt
        go_upto_region 4 with (first | rw [← z64] | (refine zla (.tmp 7) B3 Try.underlying23 Try.size23 ?_) | (go_at_call 166; refine (H3.out _).mono ?_; rintro e W4 ⟨rfl, hW4⟩; replace B0 := B0.zw hW4; replace B1 := B1.zw hW4; replace B2 := B2.zw hW4; replace B3 := B3.zw hW4; replace B4 := B4.zw hW4; replace hb := (hb).trans (hW4.mono (hb).size)) | (refine wpList_store_part rfl 23 (.tmp 30) (.tmp 29) rfl _ 0 (rdA p D A B) rfl rfl 55 _ (frC (rdA p D A B) B).toArray (B1) (frC_a _ _ _) (by first | decide | simp [frC_len]) Try.size23 ?_; try simp only [Act.put]))
        obtain ⟨W5, hwo, hzQ⟩ : ∃ v : World, v = (W4.setRow (w.heap.size + 1) (frC (rdA p D A B) B).toArray) ∧ Blk v (w.heap.size) 64 23 (D) ∧ Row v (w.heap.size + 1) 55 (frC (rdA p D A B) B).toArray ∧ Row v (w.heap.size + 1 + 1) 55 (frC (fun _ => 0) (fun _ => 0)).toArray ∧ Blk v (k2_12) 64 23 (rsQ p D A B) ∧ Blk v (k2_13) 64 23 (resP p (addK p (prd p B B) D (-1)) A) ∧ Below w.heap.size w v := ⟨_, rfl, (B0.rowOther (by omega)), (B1.row (frC (rdA p D A B) B).toArray), (B2.rowOther (by omega)), (B3.rowOther (by omega)), (B4.rowOther (by omega)), (zr hb (by omega) _)⟩
        rw [← hwo]
        clear hwo B0 B1 B2 B3 B4 hb
        obtain ⟨B0, B1, B2, B3, B4, hb⟩ := hzQ
        try simp only [Act.put, pA, pB, pC]
        have lt_B0 := B0.lt
        have lt_B1 := B1.lt
        have lt_B2 := B2.lt
        have lt_B3 := B3.lt
        have lt_B4 := B4.lt
        go_wp2_with (first | rw [← z64] | (refine wpList_load_mid rfl 23 (.tmp 32) rfl _ 64 rfl (bl 64 B) _ (B1.frb) Try.underlying23 rfl (by rw [zl]; exact Try.size23) ?_) | (refine wpList_load_mid rfl 23 (.tmp 34) rfl _ 0 rfl (bl 64 (rdA p D A B)) _ (B1.fra) Try.underlying23 rfl (by rw [zl]; exact Try.size23) ?_) | (go_at_call 136; refine (H5.out _).mono ?_; rintro e W6 ⟨rfl, hW6⟩; replace B0 := B0.zw hW6; replace B1 := B1.zw hW6; replace B2 := B2.zw hW6; replace B3 := B3.zw hW6; replace B4 := B4.zw hW6; replace hb := (hb).trans (hW6.mono (hb).size)) | (refine wpList_store_part rfl 23 (.tmp 37) (.tmp 36) rfl _ 64 (rdB p D A B) rfl rfl 55 _ (frC (rdA p D A B) (rdB p D A B)).toArray (B1) (frC_b _ _ _) (by first | decide | simp [frC_len]) Try.size23 ?_; try simp only [Act.put]))
        obtain ⟨W7, hwo, hzQ⟩ : ∃ v : World, v = (W6.setRow (w.heap.size + 1) (frC (rdA p D A B) (rdB p D A B)).toArray) ∧ Blk v (w.heap.size) 64 23 (D) ∧ Row v (w.heap.size + 1) 55 (frC (rdA p D A B) (rdB p D A B)).toArray ∧ Row v (w.heap.size + 1 + 1) 55 (frC (fun _ => 0) (fun _ => 0)).toArray ∧ Blk v (k2_12) 64 23 (rsQ p D A B) ∧ Blk v (k2_13) 64 23 (resP p (addK p (prd p B B) D (-1)) A) ∧ Below w.heap.size w v := ⟨_, rfl, (B0.rowOther (by omega)), (B1.row (frC (rdA p D A B) (rdB p D A B)).toArray), (B2.rowOther (by omega)), (B3.rowOther (by omega)), (B4.rowOther (by omega)), (zr hb (by omega) _)⟩
        rw [← hwo]
        clear hwo B0 B1 B2 B3 B4 hb
        obtain ⟨B0, B1, B2, B3, B4, hb⟩ := hzQ
        try simp only [Act.put, pA, pB, pC]
        go_roundw
        case rel => exact ⟨fu, _, _, hI2, hb, B0, B1, B2⟩
        case measure => rw [degAt_row B1, degAt_row BFo.out]; have h1 := HM.out; have h2 := HDA.out; omega
end Go.Proofs.Ytoncepgcfifgbaa
end
section
namespace Go.Proofs.Ytoncepgcfifgbaa
open Go Go.RowKit
set_option linter.unusedVariables false
set_option linter.unusedSimpArgs false
attribute [local irreducible] deg monUp monB okA
theorem okA_nat {p : Int} {f : Nat → Nat} (h : okA p f = true) : ∃ n : Nat, p = (n : Int) ∧ (n = 2 ∨ n = 3 ∨ n = 5 ∨ n = 7) ∧ ∀ k, k < 64 → f k < n := by
 obtain ⟨n, hn, n2, n7⟩ := okP_nat (okA_p h)
 refine ⟨n, hn, ?_, fun k hk => ?_⟩
 · rcases okP_cases (okA_p h) with e | e | e | e <;> omega
 · have := okA_lt h hk; omega
end Go.Proofs.Ytoncepgcfifgbaa
end
