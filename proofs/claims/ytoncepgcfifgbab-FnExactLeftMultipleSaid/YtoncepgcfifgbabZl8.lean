/-
  What the rows of this claim rest on: arrays of bytes, walks of the functions, plain mathematics.
-/
import Derived.Test.YtoncepgcfifgbabZl7
import Derived.Great.FillDense
set_option maxRecDepth 100000
set_option maxHeartbeats 9000000
set_option linter.unusedVariables false
set_option linter.unusedSimpArgs false
namespace Go.Proofs.Ytoncepgcfifgbab
open Go Go.RowKit
attribute [local irreducible] deg addK strP frI frN mmP pmP resP
theorem kplus_any (p : Nat) (m f g : Nat → Nat) (w : World) (hpr : p = 2 ∨ p = 3 ∨ p = 5 ∨ p = 7) (lf : ∀ k, k < 64 → f k < p) (lg : ∀ k, k < 64 → g k < p) :
 Calls Try.prog 106 #[.agg (fdC (p : Int) m).toArray, .agg (zb 64 f), .agg (zb 64 g)] w fun e w' => e = .returned (.agg (zb 64 (addK p f g 1))) ∧ Below w.heap.size w w' := by
 have HSU := Lib.hid (show ∀ W, Calls Try.prog 66 #[.int .i64 (p : Int), .agg (zb 64 f), .agg (zb 64 g)] W fun e w' => e = .returned (.agg (zb 64 (addK p f g 1))) ∧ Below W.heap.size W w' from fun W => by
  rw [addK_one]; exact sum_any p _ _ W (by omega) (by omega) lf lg)
 go_enter Try.func106, Try.ntmps106
 go_upto_region 1 with (fail)
 rw [← z64]
 obtain ⟨W1, hwo⟩ : ∃ v : World, v = ((((w.alloc (.cells (fdC (p : Int) m).toArray 38)).alloc (.cells (zb 64 (f)) 24)).alloc (.cells (zb 64 (g)) 24)).alloc (.cells (zb 64 (fun _ => 0)) 24)) := ⟨_, rfl⟩
 have B0 : Row W1 (w.heap.size) 38 (fdC (p : Int) m).toArray := by subst hwo; have := ((((Row.new w 38 (fdC (p : Int) m).toArray).alloc (.cells (zb 64 (f)) 24)).alloc (.cells (zb 64 (g)) 24)).alloc (.cells (zb 64 (fun _ => 0)) 24)); simpa using this
 have B1 : Blk W1 (w.heap.size + 1) 64 24 (f) := by subst hwo; have := (((Blk.new (w.alloc (.cells (fdC (p : Int) m).toArray 38)) 64 24 (f)).alloc (.cells (zb 64 (g)) 24)).alloc (.cells (zb 64 (fun _ => 0)) 24)); simpa using this
 have B2 : Blk W1 (w.heap.size + 1 + 1) 64 24 (g) := by subst hwo; have := ((Blk.new ((w.alloc (.cells (fdC (p : Int) m).toArray 38)).alloc (.cells (zb 64 (f)) 24)) 64 24 (g)).alloc (.cells (zb 64 (fun _ => 0)) 24)); simpa using this
 have B3 : Blk W1 (w.heap.size + 1 + 1 + 1) 64 24 (fun _ => 0) := by subst hwo; have := (Blk.new (((w.alloc (.cells (fdC (p : Int) m).toArray 38)).alloc (.cells (zb 64 (f)) 24)).alloc (.cells (zb 64 (g)) 24)) 64 24 (fun _ => 0)); simpa using this
 have hb : Below w.heap.size w W1 := by subst hwo; exact (((((Below.refl _ _).alloc (Nat.le_refl _) _).alloc (by simp) _).alloc (by simp; omega) _).alloc (by simp; omega) _)
 rw [← hwo]
 clear hwo
 have cc := B0.cell (i := 0) (v := .int .i64 (p : Int)) (fdC_at (p : Int) m)
 have lt_B0 := B0.lt
 have lt_B1 := B1.lt
 have lt_B2 := B2.lt
 have lt_B3 := B3.lt
 go_wp2_with (first | rw [← z64] | (refine zla (.tmp 4) B1 Try.underlying24 Try.size24 ?_) | (refine zla (.tmp 5) B2 Try.underlying24 Try.size24 ?_) | (go_at_call 66; refine (HSU.out _).mono ?_; rintro e W2 ⟨rfl, hW2⟩; replace B0 := B0.zw hW2; replace B1 := B1.zw hW2; replace B2 := B2.zw hW2; replace B3 := B3.zw hW2; replace hb := (hb).trans (hW2.mono (hb).size)) | (refine zsr (.tmp 6) (.tmp 11) (addK p f g 1) B3 Try.size24 ?_; try simp only [Act.put]))
 obtain ⟨W3, hwo, hzQ⟩ : ∃ v : World, v = (W2.setRow (w.heap.size + 1 + 1 + 1) (zb 64 (addK p f g 1))) ∧ Row v (w.heap.size) 38 (fdC (p : Int) m).toArray ∧ Blk v (w.heap.size + 1) 64 24 (f) ∧ Blk v (w.heap.size + 1 + 1) 64 24 (g) ∧ Blk v (w.heap.size + 1 + 1 + 1) 64 24 (addK p f g 1) ∧ Below w.heap.size w v := ⟨_, rfl, (B0.rowOther (by omega)), (B1.rowOther (by omega)), (B2.rowOther (by omega)), (B3.row (addK p f g 1)), (zr hb (by omega) _)⟩
 rw [← hwo]
 clear hwo B0 B1 B2 B3 hb
 obtain ⟨B0, B1, B2, B3, hb⟩ := hzQ
 try simp only [Act.put, pA, pB, pC]
 refine bodyPost_ret (zrb rfl _ _ _ 64 24 5 _ rfl B3 Try.underlying24 Try.size24) rfl ⟨rfl, hb⟩
theorem kacross_any (p : Nat) (m x y : Nat → Nat) (n : Nat) (w : World) (hpr : p = 2 ∨ p = 3 ∨ p = 5 ∨ p = 7) (lm : ∀ k, k < 64 → m k < p) (d : Nat) (hd : deg m = (d : Int)) (hd1 : 1 ≤ d) (hd9 : d ≤ 9) (hn : n ≤ 1000) (lx : ∀ k, k < 64 → x k < p) (hy : rsd p m y) :
 Calls Try.prog 104 #[.agg (fdC (p : Int) m).toArray, .agg (zb 64 x), .int .i64 (n : Int), .agg (zb 64 y)] w fun e w' => e = .returned (.agg (zb 64 (mmP p x (frN p m y (n % d)) m))) ∧ Below w.heap.size w w' := by
 have p0 : 0 < p := by omega
 have h0 : 0 ≤ deg m := by omega
 have h9 : deg m ≤ 9 := by omega
 have HFR := Lib.hid (fun W => kfrob_any p m y n W hpr lm d hd hd1 hd9 hn hy)
 have HMM := Lib.hid (fun W => kproduct_any p m x (frN p m y (n % d)) W hpr lm h0 lx (frN_ok hpr lm h0 h9 hy (n % d)).1.1)
 go_enter Try.func104, Try.ntmps104
 go_upto_region 1 with (fail)
 rw [← z64]
 obtain ⟨W1, hwo⟩ : ∃ v : World, v = ((((w.alloc (.cells (fdC (p : Int) m).toArray 38)).alloc (.cells (zb 64 (x)) 24)).alloc (.cells (zb 64 (y)) 24)).alloc (.cells (zb 64 (fun _ => 0)) 24)) := ⟨_, rfl⟩
 have B0 : Row W1 (w.heap.size) 38 (fdC (p : Int) m).toArray := by subst hwo; have := ((((Row.new w 38 (fdC (p : Int) m).toArray).alloc (.cells (zb 64 (x)) 24)).alloc (.cells (zb 64 (y)) 24)).alloc (.cells (zb 64 (fun _ => 0)) 24)); simpa using this
 have B1 : Blk W1 (w.heap.size + 1) 64 24 (x) := by subst hwo; have := (((Blk.new (w.alloc (.cells (fdC (p : Int) m).toArray 38)) 64 24 (x)).alloc (.cells (zb 64 (y)) 24)).alloc (.cells (zb 64 (fun _ => 0)) 24)); simpa using this
 have B2 : Blk W1 (w.heap.size + 1 + 1) 64 24 (y) := by subst hwo; have := ((Blk.new ((w.alloc (.cells (fdC (p : Int) m).toArray 38)).alloc (.cells (zb 64 (x)) 24)) 64 24 (y)).alloc (.cells (zb 64 (fun _ => 0)) 24)); simpa using this
 have B3 : Blk W1 (w.heap.size + 1 + 1 + 1) 64 24 (fun _ => 0) := by subst hwo; have := (Blk.new (((w.alloc (.cells (fdC (p : Int) m).toArray 38)).alloc (.cells (zb 64 (x)) 24)).alloc (.cells (zb 64 (y)) 24)) 64 24 (fun _ => 0)); simpa using this
 have hb : Below w.heap.size w W1 := by subst hwo; exact (((((Below.refl _ _).alloc (Nat.le_refl _) _).alloc (by simp) _).alloc (by simp; omega) _).alloc (by simp; omega) _)
 rw [← hwo]
 clear hwo
 have lt_B0 : (w.heap.size) < W1.heap.size := B0.lt
 have lt_B1 : (w.heap.size + 1) < W1.heap.size := B1.lt
 have lt_B2 : (w.heap.size + 1 + 1) < W1.heap.size := B2.lt
 have lt_B3 : (w.heap.size + 1 + 1 + 1) < W1.heap.size := B3.lt
 have hbase : w.heap.size ≤ W1.heap.size := hb.size
 refine zq Try.mixed (by kernel_rfl) (by kernel_rfl) (fun v => by (simp only [frL, Act.put, pA, pB, pC, Nat.reduceAdd, Nat.zero_add]; exact rfl))
  (fun L v W2 => Below w.heap.size w W2 ∧ Kx [w.heap.size + 1 + 1 + 1] W1 W2 ∧ (∃ g, Blk W2 (w.heap.size + 1 + 1 + 1) 64 24 (g)) ∧ (L 7 = false → Blk W2 (w.heap.size + 1 + 1 + 1) 64 24 (fun _ => 0)) ∧ (L 7 = true → Blk W2 (w.heap.size + 1 + 1 + 1) 64 24 (mmP p x (frN p m y (n % d)) m)) ∧ VF L v [some (.agg (fdC (p : Int) m).toArray), some (.agg (zb 64 (x))), some (.agg (fdC (p : Int) m).toArray), some (.agg (zb 64 (y))), some (.int .i64 (n : Int)), some (.agg (zb 64 (frN p m y (n % d)))), some (.agg (zb 64 (mmP p x (frN p m y (n % d)) m))), none]) ?_ ?_ ?_
 · intro v hv0
   exact ⟨hb.drew, Kx.start _ _, ⟨_, B3.drew⟩, (fun _ => B3.drew), (fun h => by cases h), VF.start⟩
 · refine (.cons rfl ?_ (.cons rfl ?_ (.cons rfl ?_ (.cons rfl ?_ (.cons rfl ?_ (.cons rfl ?_ (.cons rfl ?_ (.cons rfl ?_ (.nil _)))))))))
   all_goals intro L v W2 hd hn ⟨hB, hX, x3, q3, n3, V⟩ K hK
   · refine wp_load_rowv 38 _ rfl _ rfl 38 _ (B0.kx hX (by simp <;> omega)) _ Try.underlying38 rfl 65 Try.size38 (by simp [fdC_len]) ?_
     exact hK _ _ _ rfl ⟨hB, hX, x3, q3, n3, V.step 0 rfl⟩
   · refine wp_load_any 24 _ rfl _ rfl 64 24 _ (B1.kx hX (by simp <;> omega)) _ Try.underlying24 rfl Try.size24 ?_
     exact hK _ _ _ rfl ⟨hB, hX, x3, q3, n3, V.step 1 rfl⟩
   · refine wp_load_rowv 38 _ rfl _ rfl 38 _ (B0.kx hX (by simp <;> omega)) _ Try.underlying38 rfl 65 Try.size38 (by simp [fdC_len]) ?_
     exact hK _ _ _ rfl ⟨hB, hX, x3, q3, n3, V.step 2 rfl⟩
   · refine wp_load_any 24 _ rfl _ rfl 64 24 _ (B2.kx hX (by simp <;> omega)) _ Try.underlying24 rfl Try.size24 ?_
     exact hK _ _ _ rfl ⟨hB, hX, x3, q3, n3, V.step 3 rfl⟩
   · go_wp2_with fail
     exact hK _ (.int .i64 (n : Int)) _ (by simp only [Act.put, pA, pB, pC ]) ⟨hB, hX, x3, q3, n3, V.step 4 rfl⟩
   · have e2 := V.at (zdq hd 2 rfl) rfl
     have e3 := V.at (zdq hd 3 rfl) rfl
     have e4 := V.at (zdq hd 4 rfl) rfl
     go_wp2_with (go_at_call 51; refine (HFR.out _).mono ?_; rintro e wy ⟨rfl, hy⟩)
     exact hK _ (.agg (zb 64 (frN p m y (n % d)))) _ (by simp only [Act.put, pA, pB, pC, e2, e3, e4]) ⟨hB.trans (hy.mono hB.size), hX.below hy, (let ⟨g, h⟩ := x3; ⟨g, h.zw hy⟩), (fun h => (q3 h).below hy (q3 h).lt), (fun h => (n3 h).below hy (n3 h).lt), V.step 5 rfl⟩
   · have e0 := V.at (zdq hd 0 rfl) rfl
     have e1 := V.at (zdq hd 1 rfl) rfl
     have e5 := V.at (zdq hd 5 rfl) rfl
     go_wp2_with (go_at_call 55; refine (HMM.out _).mono ?_; rintro e wy ⟨rfl, hy⟩)
     exact hK _ (.agg (zb 64 (mmP p x (frN p m y (n % d)) m))) _ (by simp only [Act.put, pA, pB, pC, e0, e1, e5]) ⟨hB.trans (hy.mono hB.size), hX.below hy, (let ⟨g, h⟩ := x3; ⟨g, h.zw hy⟩), (fun h => (q3 h).below hy (q3 h).lt), (fun h => (n3 h).below hy (n3 h).lt), V.step 6 rfl⟩
   have e6 := V.at (zdq hd 6 rfl) rfl
   obtain ⟨gz, hk⟩ := x3
   refine zsb 24 _ _ rfl _ 64 (mmP p x (frN p m y (n % d)) m) rfl e6 24 gz hk Try.size24 ?_
   exact hK _ undef _ rfl ⟨zr hB (by omega) _, hX.row (by simp) _, ⟨_, hk.row _⟩, (fun h => absurd h (by simp [setL])), (fun _ => hk.row _), V.skip 7 rfl⟩
 intro L v W2 hL ⟨hB, hX, x3, q3, n3, V⟩
 have r3 := n3 (hL 7 (by decide))
 have e0 := V.at (hL 0 (by decide)) rfl
 have e1 := V.at (hL 1 (by decide)) rfl
 have e2 := V.at (hL 2 (by decide)) rfl
 have e3 := V.at (hL 3 (by decide)) rfl
 have e4 := V.at (hL 4 (by decide)) rfl
 have e5 := V.at (hL 5 (by decide)) rfl
 have e6 := V.at (hL 6 (by decide)) rfl
 clear hL x3 q3 n3 V
 replace B0 := B0.kx hX (by simp <;> omega)
 replace B1 := B1.kx hX (by simp <;> omega)
 replace B2 := B2.kx hX (by simp <;> omega)
 clear hX
 simp only [Exit.then, e0, e1, e2, e3, e4, e5, e6]
 clear e0 e1 e2 e3 e4 e5 e6
 replace B3 := r3
 clear r3
 replace hb := hB
 clear hB
 clear hbase lt_B0 lt_B1 lt_B2 lt_B3
 go_wp2_with fail
 refine bodyPost_ret (zrb rfl _ _ _ 64 24 5 _ rfl B3 Try.underlying24 Try.size24) rfl ⟨rfl, hb⟩
theorem withoutZerosBehind_any (a : Option Addr) (n cap : Nat) (R : Nat → Nat → Nat) (w : World) (hs : SlR w a n R) (hnc : n ≤ cap) (hn9 : n ≤ 100000) :
 Calls Try.prog 53 #[.slice a n cap] w fun e w' => e = .returned (.slice a (skN R n + 1).toNat cap) ∧ Below w.heap.size w w' := by
 go_enter Try.func53, Try.ntmps53
 have hb := Below.refl w.heap.size w
 go_wp2_with fail
 go_loopw [0] (fun v wr => ∃ q : Nat, v = .slice a q cap ∧ q ≤ n ∧ Hid (skN R q = skN R n) ∧ Below w.heap.size w wr) (fun v _ => slLen v)
 case atStart => exact ⟨n, rfl, Nat.le_refl _, Lib.hid rfl, hb⟩
 case round =>
  clear hb
  obtain ⟨q, rfl, hqn, hQ, hb⟩ := hrel
  cases q with
  | zero =>
   have hq0 : ¬ (((0 : Nat) : Int) > 0) := by omega
   have HV := Lib.hid (show (skN R n + 1).toNat = 0 by have := hQ.out; rw [skN_z] at this; omega)
   clear hQ
   go_wp2_with fail
   go_ret
   exact ⟨by rw [HV.out]; rfl, hb⟩
  | succ r =>
   obtain ⟨b, nb, t, rfl, hnb, B0⟩ := hs.has (by omega)
   replace B0 := B0.zw hb
   have hq0 : (((r + 1 : Nat) : Int) > 0) := by omega
   have hq1 : ((r + 1 : Nat) : Int) - 1 = (r : Int) := by omega
   have hqr : (r : Int) < ((r + 1 : Nat) : Int) := by omega
   have hr9 : (r : Int) ≤ 100000 := by omega
   have hgd := Try.noGuard24
   have heq := fun W => zeb (P := Try.prog) W 9998 24 5 64 (R r) (fun _ => 0) Try.underlying24 Try.underlying5 Try.size5
   cases hz : eqN 64 (R r) (fun _ => 0) with
   | true =>
    rw [hz] at heq
    have HS := Lib.hid (show skN R r = skN R n by rw [← hQ.out, skN_skip hz])
    clear hz hQ
    have hrc : (r : Int) ≤ (cap : Int) := by omega
    go_wp2_with (first | (refine wpList_load_mid_g rfl 24 (.tmp 11) rfl _ (r * 64) rfl (bl 64 (R r)) _ (B0.rowF (r := nb) (c := 64) (by omega)) Try.underlying24 rfl (by rw [zl]; exact Try.size24) ?_) | rw [← z64])
    go_roundw
    case rel => exact ⟨r, by first | rfl | simp, by omega, HS, hb⟩
    case measure => simp [slLen]
   | false =>
    rw [hz] at heq
    have HV := Lib.hid (show (skN R n + 1).toNat = r + 1 by rw [← hQ.out, skN_stop hz]; omega)
    clear hz hQ
    go_wp2_with (first | (refine wpList_load_mid_g rfl 24 (.tmp 11) rfl _ (r * 64) rfl (bl 64 (R r)) _ (B0.rowF (r := nb) (c := 64) (by omega)) Try.underlying24 rfl (by rw [zl]; exact Try.size24) ?_) | rw [← z64])
    go_ret
    exact ⟨by rw [HV.out]; rfl, hb⟩
theorem skewProduct_any (p : Nat) (m : Nat → Nat) (F G : Nat → Nat → Nat) (A B cA cB : Nat) (aA aB : Option Addr) (w : World) (hpr : p = 2 ∨ p = 3 ∨ p = 5 ∨ p = 7) (lm : ∀ k, k < 64 → m k < p) (d : Nat) (hd : deg m = (d : Int)) (hd1 : 1 ≤ d) (hd9 : d ≤ 9) (hA : A ≤ 64) (hB : B ≤ 64)
 (lF : ∀ i, i < A → ∀ k, k < 64 → F i k < p) (lG : ∀ j, j < B → rsd p m (G j)) (hf : SlR w aA A F) (hg : SlR w aB B G) :
 Calls Try.prog 31 #[.agg (fdC (p : Int) m).toArray, .slice aA A cA, .slice aB B cB] w fun e w' => ∃ c, e = .returned (.slice (some ⟨c, 0, none⟩) (skN (spR p m d F G B A) (A + B) + 1).toNat (A + B)) ∧ w.heap.size ≤ c ∧ Blk w' c ((A + B) * 64) 24 (fl 64 (spR p m d F G B A)) ∧ Below w.heap.size w w' := by
 have p0 : 0 < p := by omega
 have h0 : 0 ≤ deg m := by omega
 have h9 : deg m ≤ 9 := by omega
 have p2 : 2 ≤ p := by omega
 have p7 : p ≤ 7 := by omega
 obtain ⟨M, hM⟩ : ∃ M : Nat, M = A + B := ⟨_, rfl⟩
 have hMI : (A : Int) + (B : Int) = (M : Int) := by omega
 have hM9 : M ≤ 100000 := by omega
 rw [← hM]
 have HM := Lib.hid hM
 clear hM
 have HX := Lib.hid (fun j (hj : j < B) i => (frN_ok hpr lm h0 h9 (lG j hj) i).1)
 have HAC := Lib.hid (fun i (hi : i < A) j (hj : j < B) W => kacross_any p m (F i) (G j) i W hpr lm d hd hd1 hd9 (by omega) (lF i hi) (lG j hj))
 have HPL := Lib.hid (fun (f g : Nat → Nat) (hf : ∀ k, f k < p) (hg : ∀ k, k < 64 → g k < p) W => kplus_any p m f g W hpr (fun k _ => hf k) hg)
 have HJL := Lib.hid (fun i j r k => spJ_lt (p := p) (m := m) (d := d) (F := F) (G := G) (i := i) p0 (spR_lt (m := m) (d := d) (F := F) (G := G) (n := B) p0 i) j r k)
 have HML := Lib.hid (fun i j k (hk : k < 64) => mmP_lt (p := p) (a := F i) (b := frN p m (G j) (i % d)) (m := m) p0 k (by omega))
 have HZ := Lib.hid (spR_z (p := p) (m := m) (d := d) (F := F) (G := G) B)
 have HS := Lib.hid (spR_s (p := p) (m := m) (d := d) (F := F) (G := G) B)
 have HJZ := Lib.hid (spJ_z (p := p) (m := m) (d := d) (F := F) (G := G))
 have HJK := Lib.hid (fun i j O h => spJ_skip (p := p) (m := m) (d := d) (F := F) (G := G) (i := i) (j := j) (O := O) h)
 have HJS := Lib.hid (fun i j O h h2 => spJ_s (p := p) (m := m) (d := d) (F := F) (G := G) (i := i) (j := j) (O := O) h h2)
 have HWZ := Lib.hid (fun (W : World) (c : Nat) (R : Nat → Nat → Nat) (h : Blk W c (M * 64) 24 (fl 64 R)) => withoutZerosBehind_any (some ⟨c, 0, none⟩) M M R W (SlR.of h (Nat.le_refl _)) (Nat.le_refl _) hM9)
 clear hd lF lG
 go_enter Try.func31, Try.ntmps31
 go_upto_region 1 with (fail)
 obtain ⟨W1, hwo⟩ : ∃ v : World, v = (w.alloc (.cells (fdC (p : Int) m).toArray 38)) := ⟨_, rfl⟩
 have B0 : Row W1 (w.heap.size) 38 (fdC (p : Int) m).toArray := by subst hwo; have := (Row.new w 38 (fdC (p : Int) m).toArray); simpa using this
 have hb : Below w.heap.size w W1 := by subst hwo; exact ((Below.refl _ _).alloc (Nat.le_refl _) _)
 rw [← hwo]
 clear hwo
 go_upto_region 2 with (refine wpList_make_rows _ rfl 58 (.tmp 16) (.tmp 16) rfl 24 Try.underlying58 Try.made24 M hM9 rfl rfl ?_)
 have lt_B0 := B0.lt
 have lhb := hb.size
 obtain ⟨W2, hwo, hzQ⟩ : ∃ v : World, v = (W1.alloc (.cells (zb (M * 64) (fl 64 (fun _ _ => 0))) 24)) ∧ Row v (w.heap.size) 38 (fdC (p : Int) m).toArray ∧ Blk v (W1.heap.size) (M * 64) 24 (fl 64 (fun _ _ => 0)) ∧ Below w.heap.size w v := ⟨_, rfl, (B0.alloc (.cells (zb (M * 64) (fl 64 (fun _ _ => 0))) 24)), (Blk.new W1 (M * 64) 24 (fl 64 (fun _ _ => 0))), (hb.alloc (by have := hb.size; simp; omega) (.cells (zb (M * 64) (fl 64 (fun _ _ => 0))) 24))⟩
 rw [← hwo]
 clear hwo B0 hb
 obtain ⟨B0, B1, hb⟩ := hzQ
 obtain ⟨N1, hNN⟩ : ∃ n : Nat, n = W1.heap.size := ⟨_, rfl⟩
 rw [← hNN] at lt_B0 lhb B1 ⊢
 clear hNN
 have zN1_0 := lt_B0
 have zN1 := lhb
 clear lt_B0 lhb
 try simp only [Act.put, pA, pB, pC]
 go_wp2_with fail
 go_loopw [20] (fun c wr => ∃ (i : Nat) (O : Nat → Nat → Nat), c = .int .i64 (i : Int) ∧ i ≤ A ∧ Hid (O = spR p m d F G B i) ∧ Below w.heap.size w wr ∧ Row wr (w.heap.size) 38 (fdC (p : Int) m).toArray ∧ w.heap.size ≤ N1 ∧ Blk wr (N1) (M * 64) 24 (fl 64 O)) (fun c _ => A - (intOf c).toNat)
 case atStart => exact ⟨0, _, rfl, Nat.zero_le _, Lib.hid HZ.out.symm, hb, B0, by omega, B1⟩
 case round =>
  clear hb B0 B1
  obtain ⟨i, O, rfl, hiA, hO, hb, B0, hlw, B1⟩ := hrel
  by_cases hi : i < A
  · have hiI : (i : Int) < (A : Int) := by omega
    obtain ⟨bf, nf, tf, rfl, hnf, BF⟩ := hf.has (by omega)
    replace BF := BF.zw hb
    go_upto_region 4 with (fail)
    have B2 := BF
    clear BF
    have lt_B0 := B0.lt
    have lt_B1 := B1.lt
    have lt_B2 := B2.lt
    go_upto_region 5 with (first | rw [← z64] | (refine wpList_load_mid rfl 24 (.tmp 23) rfl _ (i * 64) rfl (bl 64 (F i)) _ (B2.rowF (r := nf) (c := 64) (by omega)) Try.underlying24 rfl (by rw [zl]; exact Try.size24) ?_) | (refine wpList_store_blk rfl 24 (.tmp 9) (.tmp 24) rfl _ 64 (F i) rfl rfl 24 _ ((Blk.new wr 64 24 (fun _ => 0))) Try.size24 ?_; try simp only [Act.put]))
    have lt_B0 := B0.lt
    have lt_B1 := B1.lt
    have lt_B2 := B2.lt
    have lhb := hb.size
    obtain ⟨W3, hwo, hzQ⟩ : ∃ v : World, v = ((wr.alloc (.cells (zb 64 (fun _ => 0)) 24)).setRow (wr.heap.size) (zb 64 (F i))) ∧ Row v (w.heap.size) 38 (fdC (p : Int) m).toArray ∧ Blk v (N1) (M * 64) 24 (fl 64 O) ∧ Blk v (bf) (nf * 64) tf (fl 64 F) ∧ Blk v (wr.heap.size) 64 24 (F i) ∧ Below w.heap.size w v := ⟨_, rfl, ((B0.alloc (.cells (zb 64 (fun _ => 0)) 24)).rowOther (by omega)), ((B1.alloc (.cells (zb 64 (fun _ => 0)) 24)).rowOther (by omega)), ((B2.alloc (.cells (zb 64 (fun _ => 0)) 24)).rowOther (by omega)), ((Blk.new wr 64 24 (fun _ => 0)).row (F i)), (zr (hb.alloc (by have := hb.size; simp; omega) (.cells (zb 64 (fun _ => 0)) 24)) (by omega) _)⟩
    rw [← hwo]
    clear hwo B0 B1 B2 hb
    obtain ⟨B0, B1, B2, B3, hb⟩ := hzQ
    obtain ⟨N2, hNN⟩ : ∃ n : Nat, n = wr.heap.size := ⟨_, rfl⟩
    rw [← hNN] at lt_B0 lt_B1 lt_B2 lhb B3 ⊢
    clear hNN
    have zN2_0 := lt_B0
    have zN2_1 := lt_B1
    have zN2_2 := lt_B2
    have zN2 := lhb
    clear lt_B0 lt_B1 lt_B2 lhb
    try simp only [Act.put, pA, pB, pC]
    clear B2
    go_wp2_with fail
    go_loopw [27] (fun c wr => ∃ (j : Nat) (O : Nat → Nat → Nat), c = .int .i64 (j : Int) ∧ j ≤ B ∧ Hid (O = spJ p m d F G i (spR p m d F G B i) j) ∧ Below w.heap.size w wr ∧ Row wr (w.heap.size) 38 (fdC (p : Int) m).toArray ∧ w.heap.size ≤ N1 ∧ Blk wr (N1) (M * 64) 24 (fl 64 O) ∧ w.heap.size ≤ N2 ∧ N2 ≠ N1 ∧ Blk wr (N2) 64 24 (F i)) (fun c _ => B - (intOf c).toNat)
    case atStart => exact ⟨0, O, rfl, Nat.zero_le _, Lib.hid (by rw [HJZ.out, hO.out]), hb, B0, hlw, B1, by omega, by omega, B3⟩
    case round =>
     clear hb B0 B1 B3 hO
     obtain ⟨j, O, rfl, hjB, hO, hb, B0, hlw, B1, hcw, hcl, B3⟩ := hrel
     by_cases hj : j < B
     · have hjI : (j : Int) < (B : Int) := by omega
       obtain ⟨bg, ng, tg, rfl, hng, BG⟩ := hg.has (by omega)
       replace BG := BG.zw hb
       go_upto_region 7 with (fail)
       have B4 := BG
       clear BG
       have lt_B0 := B0.lt
       have lt_B1 := B1.lt
       have lt_B3 := B3.lt
       have lt_B4 := B4.lt
       go_upto_region 8 with (first | rw [← z64] | (refine wpList_load_mid rfl 24 (.tmp 30) rfl _ (j * 64) rfl (bl 64 (G j)) _ (B4.rowF (r := ng) (c := 64) (by omega)) Try.underlying24 rfl (by rw [zl]; exact Try.size24) ?_) | (refine wpList_store_blk rfl 24 (.tmp 11) (.tmp 31) rfl _ 64 (G j) rfl rfl 24 _ ((Blk.new wr 64 24 (fun _ => 0))) Try.size24 ?_; try simp only [Act.put]))
       have lt_B0 := B0.lt
       have lt_B1 := B1.lt
       have lt_B3 := B3.lt
       have lt_B4 := B4.lt
       have lhb := hb.size
       obtain ⟨W4, hwo, hzQ⟩ : ∃ v : World, v = ((wr.alloc (.cells (zb 64 (fun _ => 0)) 24)).setRow (wr.heap.size) (zb 64 (G j))) ∧ Row v (w.heap.size) 38 (fdC (p : Int) m).toArray ∧ Blk v (N1) (M * 64) 24 (fl 64 O) ∧ Blk v (N2) 64 24 (F i) ∧ Blk v (bg) (ng * 64) tg (fl 64 G) ∧ Blk v (wr.heap.size) 64 24 (G j) ∧ Below w.heap.size w v := ⟨_, rfl, ((B0.alloc (.cells (zb 64 (fun _ => 0)) 24)).rowOther (by omega)), ((B1.alloc (.cells (zb 64 (fun _ => 0)) 24)).rowOther (by omega)), ((B3.alloc (.cells (zb 64 (fun _ => 0)) 24)).rowOther (by omega)), ((B4.alloc (.cells (zb 64 (fun _ => 0)) 24)).rowOther (by omega)), ((Blk.new wr 64 24 (fun _ => 0)).row (G j)), (zr (hb.alloc (by have := hb.size; simp; omega) (.cells (zb 64 (fun _ => 0)) 24)) (by omega) _)⟩
       rw [← hwo]
       clear hwo B0 B1 B3 B4 hb
       obtain ⟨B0, B1, B3, B4, B5, hb⟩ := hzQ
       obtain ⟨N3, hNN⟩ : ∃ n : Nat, n = wr.heap.size := ⟨_, rfl⟩
       rw [← hNN] at lt_B0 lt_B1 lt_B3 lt_B4 lhb B5 ⊢
       clear hNN
       have zN3_0 := lt_B0
       have zN3_1 := lt_B1
       have zN3_3 := lt_B3
       have zN3_4 := lt_B4
       have zN3 := lhb
       clear lt_B0 lt_B1 lt_B3 lt_B4 lhb
       try simp only [Act.put, pA, pB, pC]
       clear B4
       have hgd := Try.noGuard24
       have heqF := fun W => zeb (P := Try.prog) W 9998 24 5 64 (F i) (fun _ => 0) Try.underlying24 Try.underlying5 Try.size5
       have heqG := fun W => zeb (P := Try.prog) W 9998 24 5 64 (G j) (fun _ => 0) Try.underlying24 Try.underlying5 Try.size5
       cases hzF : eqN 64 (F i) (fun _ => 0) with
       | true =>
        rw [hzF] at heqF
        have HK := Lib.hid (HJK.out i j (spR p m d F G B i) (.inl hzF))
        clear hzF heqG
        go_wp2_with (first | (refine zla (.tmp 9) B3 Try.underlying24 Try.size24 ?_) | rw [← z64])
        go_roundw
        case rel => exact ⟨j + 1, O, by go_num, by omega, Lib.hid (by rw [HK.out, hO.out]), hb, B0, hlw, B1, hcw, hcl, B3⟩
        case measure => simp [intOf] <;> omega
       | false =>
        rw [hzF] at heqF
        cases hzG : eqN 64 (G j) (fun _ => 0) with
        | true =>
         rw [hzG] at heqG
         have HK := Lib.hid (HJK.out i j (spR p m d F G B i) (.inr hzG))
         clear hzF hzG
         go_wp2_with (first | (refine zla (.tmp 9) B3 Try.underlying24 Try.size24 ?_) | (refine zlg rfl 24 (.tmp 11) rfl _ rfl 64 24 _ B5 _ Try.underlying24 rfl Try.size24 ?_) | rw [← z64])
         go_roundw
         case rel => exact ⟨j + 1, O, by go_num, by omega, Lib.hid (by rw [HK.out, hO.out]), hb, B0, hlw, B1, hcw, hcl, B3⟩
         case measure => simp [intOf] <;> omega
        | false =>
         rw [hzG] at heqG
         have HK := Lib.hid (HJS.out i j (spR p m d F G B i) hzF hzG)
         clear hzF hzG
         obtain ⟨Q, hQ⟩ : ∃ Q, Q = i + j := ⟨_, rfl⟩
         have hQI : (i : Int) + (j : Int) = (Q : Int) := by omega
         have hQM : Q < M := by have := HM.out; omega
         have hQMI : (Q : Int) < (M : Int) := by omega
         have HQ := Lib.hid hQ
         clear hQ
         have HOL := Lib.hid (show ∀ k, O Q k < p from fun k => by rw [hO.out]; exact HJL.out i j Q k)
         have HK1 := Lib.hid (HAC.out i hi j hj)
         have HK2 := Lib.hid (HPL.out (O Q) (mmP p (F i) (frN p m (G j) (i % d)) m) HOL.out (HML.out i j))
         go_upto_region 9 with (first | (refine zla (.tmp 9) B3 Try.underlying24 Try.size24 ?_) | (refine zlg rfl 24 (.tmp 11) rfl _ rfl 64 24 _ B5 _ Try.underlying24 rfl Try.size24 ?_) | rw [← z64])
         clear heqF heqG hgd
         have lt_B0 : (w.heap.size) < W4.heap.size := B0.lt
         have lt_B1 : (N1) < W4.heap.size := B1.lt
         have lt_B3 : (N2) < W4.heap.size := B3.lt
         have lt_B5 : (N3) < W4.heap.size := B5.lt
         have hbase : w.heap.size ≤ W4.heap.size := hb.size
         refine zq Try.mixed (by kernel_rfl) (by kernel_rfl) (fun v => by (simp only [frL, Act.put, pA, pB, pC, Nat.reduceAdd, Nat.zero_add]; exact rfl))
          (fun L v W5 => Below w.heap.size w W5 ∧ Kx [N1] W4 W5 ∧ (∃ g, Blk W5 (N1) (M * 64) 24 (g)) ∧ (L 20 = false → Blk W5 (N1) (M * 64) 24 (fl 64 O)) ∧ (L 20 = true → Blk W5 (N1) (M * 64) 24 (fl 64 (updR O Q (addK p (O Q) (mmP p (F i) (frN p m (G j) (i % d)) m) 1)))) ∧ VF L v [some (.slice (some ⟨N1, 0, none⟩) M M), some (.int .i64 (i : Int)), some (.int .i64 (j : Int)), some (.int .i64 (Q : Int)), some (.agg (fdC (p : Int) m).toArray), some (.iface 38 (.agg (fdC (p : Int) m).toArray)), some (.slice (some ⟨N1, 0, none⟩) M M), some (.int .i64 (i : Int)), some (.int .i64 (j : Int)), some (.int .i64 (Q : Int)), some (.pointer (some ⟨N1, Q * 64, none⟩)), some (.agg (zb 64 (O Q))), some (.agg (fdC (p : Int) m).toArray), some (.iface 38 (.agg (fdC (p : Int) m).toArray)), some (.agg (zb 64 (F i))), some (.int .i64 (i : Int)), some (.agg (zb 64 (G j))), some (.agg (zb 64 (mmP p (F i) (frN p m (G j) (i % d)) m))), some (.agg (zb 64 (addK p (O Q) (mmP p (F i) (frN p m (G j) (i % d)) m) 1))), some (.pointer (some ⟨N1, Q * 64, none⟩)), none]) ?_ ?_ ?_
         · intro v hv0
           exact ⟨hb.drew, Kx.start _ _, ⟨_, B1.drew⟩, (fun _ => B1.drew), (fun h => by cases h), VF.start⟩
         · refine (.cons rfl ?_ (.cons rfl ?_ (.cons rfl ?_ (.cons rfl ?_ (.cons rfl ?_ (.cons rfl ?_ (.cons rfl ?_ (.cons rfl ?_ (.cons rfl ?_ (.cons rfl ?_ (.cons rfl ?_ (.cons rfl ?_ (.cons rfl ?_ (.cons rfl ?_ (.cons rfl ?_ (.cons rfl ?_ (.cons rfl ?_ (.cons rfl ?_ (.cons rfl ?_ (.cons rfl ?_ (.cons rfl ?_ (.nil _))))))))))))))))))))))
           all_goals intro L v W5 hd hn ⟨hB, hX, x1, q1, n1, V⟩ K hK
           · go_wp2_with fail
             exact hK _ (.slice (some ⟨N1, 0, none⟩) M M) _ (by simp only [Act.put, pA, pB, pC ]) ⟨hB, hX, x1, q1, n1, V.step 0 rfl⟩
           · go_wp2_with fail
             exact hK _ (.int .i64 (i : Int)) _ (by simp only [Act.put, pA, pB, pC ]) ⟨hB, hX, x1, q1, n1, V.step 1 rfl⟩
           · go_wp2_with fail
             exact hK _ (.int .i64 (j : Int)) _ (by simp only [Act.put, pA, pB, pC ]) ⟨hB, hX, x1, q1, n1, V.step 2 rfl⟩
           · have e1 := V.at (zdq hd 1 rfl) rfl
             have e2 := V.at (zdq hd 2 rfl) rfl
             go_wp2_with fail
             exact hK _ (.int .i64 (Q : Int)) _ (by simp only [Act.put, pA, pB, pC, e1, e2]) ⟨hB, hX, x1, q1, n1, V.step 3 rfl⟩
           · refine wp_load_rowv 38 _ rfl _ rfl 38 _ (B0.kx hX (by simp <;> omega)) _ Try.underlying38 rfl 65 Try.size38 (by simp [fdC_len]) ?_
             exact hK _ _ _ rfl ⟨hB, hX, x1, q1, n1, V.step 4 rfl⟩
           · have e4 := V.at (zdq hd 4 rfl) rfl
             go_wp2_with fail
             exact hK _ (.iface 38 (.agg (fdC (p : Int) m).toArray)) _ (by simp only [Act.put, pA, pB, pC, e4]) ⟨hB, hX, x1, q1, n1, V.step 5 rfl⟩
           · go_wp2_with fail
             exact hK _ (.slice (some ⟨N1, 0, none⟩) M M) _ (by simp only [Act.put, pA, pB, pC ]) ⟨hB, hX, x1, q1, n1, V.step 6 rfl⟩
           · go_wp2_with fail
             exact hK _ (.int .i64 (i : Int)) _ (by simp only [Act.put, pA, pB, pC ]) ⟨hB, hX, x1, q1, n1, V.step 7 rfl⟩
           · go_wp2_with fail
             exact hK _ (.int .i64 (j : Int)) _ (by simp only [Act.put, pA, pB, pC ]) ⟨hB, hX, x1, q1, n1, V.step 8 rfl⟩
           · have e7 := V.at (zdq hd 7 rfl) rfl
             have e8 := V.at (zdq hd 8 rfl) rfl
             go_wp2_with fail
             exact hK _ (.int .i64 (Q : Int)) _ (by simp only [Act.put, pA, pB, pC, e7, e8]) ⟨hB, hX, x1, q1, n1, V.step 9 rfl⟩
           · have e6 := V.at (zdq hd 6 rfl) rfl
             have e9 := V.at (zdq hd 9 rfl) rfl
             go_wp2_with fail
             exact hK _ (.pointer (some ⟨N1, Q * 64, none⟩)) _ (by simp only [Act.put, pA, pB, pC, e6, e9]) ⟨hB, hX, x1, q1, n1, V.step 10 rfl⟩
           · have e10 := V.at (zdq hd 10 rfl) rfl
             have s1 := q1 (by
              cases hL : L 20 with
              | false => rfl
              | true => exact absurd rfl (hn 20 _ rfl hL ⟨11, .phase⟩ (by simp) rfl))
             refine wp_load_mid 24 _ rfl _ (Q * 64) e10 _ _ ((s1).rowF (r := M) (c := 64) (by omega)) Try.underlying24 rfl (by rw [zl]; exact Try.size24) ?_
             exact hK _ _ _ rfl ⟨hB, hX, x1, q1, n1, V.step 11 rfl⟩
           · refine wp_load_rowv 38 _ rfl _ rfl 38 _ (B0.kx hX (by simp <;> omega)) _ Try.underlying38 rfl 65 Try.size38 (by simp [fdC_len]) ?_
             exact hK _ _ _ rfl ⟨hB, hX, x1, q1, n1, V.step 12 rfl⟩
           · have e12 := V.at (zdq hd 12 rfl) rfl
             go_wp2_with fail
             exact hK _ (.iface 38 (.agg (fdC (p : Int) m).toArray)) _ (by simp only [Act.put, pA, pB, pC, e12]) ⟨hB, hX, x1, q1, n1, V.step 13 rfl⟩
           · refine wp_load_any 24 _ rfl _ rfl 64 24 _ (B3.kx hX (by simp <;> omega)) _ Try.underlying24 rfl Try.size24 ?_
             exact hK _ _ _ rfl ⟨hB, hX, x1, q1, n1, V.step 14 rfl⟩
           · go_wp2_with fail
             exact hK _ (.int .i64 (i : Int)) _ (by simp only [Act.put, pA, pB, pC ]) ⟨hB, hX, x1, q1, n1, V.step 15 rfl⟩
           · refine wp_load_any 24 _ rfl _ rfl 64 24 _ (B5.kx hX (by simp <;> omega)) _ Try.underlying24 rfl Try.size24 ?_
             exact hK _ _ _ rfl ⟨hB, hX, x1, q1, n1, V.step 16 rfl⟩
           · have e13 := V.at (zdq hd 13 rfl) rfl
             have e14 := V.at (zdq hd 14 rfl) rfl
             have e15 := V.at (zdq hd 15 rfl) rfl
             have e16 := V.at (zdq hd 16 rfl) rfl
             go_wp2_with (go_at_call 104; refine (HK1.out _).mono ?_; rintro e wy ⟨rfl, hy⟩)
             exact hK _ (.agg (zb 64 (mmP p (F i) (frN p m (G j) (i % d)) m))) _ (by simp only [Act.put, pA, pB, pC, e13, e14, e15, e16]) ⟨hB.trans (hy.mono hB.size), hX.below hy, (let ⟨g, h⟩ := x1; ⟨g, h.zw hy⟩), (fun h => (q1 h).below hy (q1 h).lt), (fun h => (n1 h).below hy (n1 h).lt), V.step 17 rfl⟩
           · have e5 := V.at (zdq hd 5 rfl) rfl
             have e11 := V.at (zdq hd 11 rfl) rfl
             have e17 := V.at (zdq hd 17 rfl) rfl
             go_wp2_with (go_at_call 106; refine (HK2.out _).mono ?_; rintro e wy ⟨rfl, hy⟩)
             exact hK _ (.agg (zb 64 (addK p (O Q) (mmP p (F i) (frN p m (G j) (i % d)) m) 1))) _ (by simp only [Act.put, pA, pB, pC, e5, e11, e17]) ⟨hB.trans (hy.mono hB.size), hX.below hy, (let ⟨g, h⟩ := x1; ⟨g, h.zw hy⟩), (fun h => (q1 h).below hy (q1 h).lt), (fun h => (n1 h).below hy (n1 h).lt), V.step 18 rfl⟩
           · have e0 := V.at (zdq hd 0 rfl) rfl
             have e3 := V.at (zdq hd 3 rfl) rfl
             go_wp2_with fail
             exact hK _ (.pointer (some ⟨N1, Q * 64, none⟩)) _ (by simp only [Act.put, pA, pB, pC, e0, e3]) ⟨hB, hX, x1, q1, n1, V.step 19 rfl⟩
           have e19 := V.at (zdq hd 19 rfl) rfl
           have e18 := V.at (zdq hd 18 rfl) rfl
           obtain ⟨gz, hk, hg⟩ : ∃ gz, Blk W5 (N1) (M * 64) 24 (fl 64 gz) ∧ updR gz (Q) (addK p (O Q) (mmP p (F i) (frN p m (G j) (i % d)) m) 1) = updR O (Q) (addK p (O Q) (mmP p (F i) (frN p m (G j) (i % d)) m) 1) := by
            cases hL : L 20 with
            | false => exact ⟨_, q1 hL, rfl⟩
            | true => exact ⟨_, n1 hL, updR_twice _ _ _⟩
           refine wp_store_rowF 24 _ _ rfl _ (Q) 64 M (addK p (O Q) (mmP p (F i) (frN p m (G j) (i % d)) m) 1) e19 e18 24 gz hk (by omega) (by decide) Try.size24 ?_
           rw [hg]
           exact hK _ undef _ rfl ⟨zr hB (by omega) _, hX.row (by simp) _, ⟨_, hk.row _⟩, (fun h => absurd h (by simp [setL])), (fun _ => hk.row _), V.skip 20 rfl⟩
         intro L v W5 hL ⟨hB, hX, x1, q1, n1, V⟩
         have r1 := n1 (hL 20 (by decide))
         have e0 := V.at (hL 0 (by decide)) rfl
         have e1 := V.at (hL 1 (by decide)) rfl
         have e2 := V.at (hL 2 (by decide)) rfl
         have e3 := V.at (hL 3 (by decide)) rfl
         have e4 := V.at (hL 4 (by decide)) rfl
         have e5 := V.at (hL 5 (by decide)) rfl
         have e6 := V.at (hL 6 (by decide)) rfl
         have e7 := V.at (hL 7 (by decide)) rfl
         have e8 := V.at (hL 8 (by decide)) rfl
         have e9 := V.at (hL 9 (by decide)) rfl
         have e10 := V.at (hL 10 (by decide)) rfl
         have e11 := V.at (hL 11 (by decide)) rfl
         have e12 := V.at (hL 12 (by decide)) rfl
         have e13 := V.at (hL 13 (by decide)) rfl
         have e14 := V.at (hL 14 (by decide)) rfl
         have e15 := V.at (hL 15 (by decide)) rfl
         have e16 := V.at (hL 16 (by decide)) rfl
         have e17 := V.at (hL 17 (by decide)) rfl
         have e18 := V.at (hL 18 (by decide)) rfl
         have e19 := V.at (hL 19 (by decide)) rfl
         clear hL x1 q1 n1 V
         replace B0 := B0.kx hX (by simp <;> omega)
         replace B3 := B3.kx hX (by simp <;> omega)
         replace B5 := B5.kx hX (by simp <;> omega)
         clear hX
         simp only [Exit.then, e0, e1, e2, e3, e4, e5, e6, e7, e8, e9, e10, e11, e12, e13, e14, e15, e16, e17, e18, e19]
         clear e0 e1 e2 e3 e4 e5 e6 e7 e8 e9 e10 e11 e12 e13 e14 e15 e16 e17 e18 e19
         replace B1 := r1
         clear r1
         replace hb := hB
         clear hB
         clear hbase lt_B0 lt_B1 lt_B3 lt_B5
         go_wp2_with fail
         go_roundw
         case rel => exact ⟨j + 1, _, by go_num, by omega, Lib.hid (by rw [HK.out, ← hO.out, ← HQ.out]), hb, B0, hlw, B1, hcw, hcl, B3⟩
         case measure => simp [intOf] <;> omega
     have hjI : ¬ (j : Int) < (B : Int) := by omega
     obtain rfl : j = B := by omega
     go_wp2_with fail
     go_roundw
     case rel => exact ⟨i + 1, O, by go_num, by omega, Lib.hid (by rw [HS.out, hO.out]), hb, B0, hlw, B1⟩
     case measure => simp [intOf] <;> omega
  have hiI : ¬ (i : Int) < (A : Int) := by omega
  obtain rfl : i = A := by omega
  go_upto_region 12 with (fail)
  go_wp2_with (go_at_call 53; refine (HWZ.out _ _ _ B1).mono ?_; rintro e W9 ⟨rfl, hW9⟩; replace B1 := B1.zw hW9; replace hb := hb.trans (hW9.mono hb.size))
  go_ret
  exact ⟨_, by rw [← hO.out]; rfl, by omega, by rw [← hO.out]; exact B1, hb⟩
theorem skTimes_any (p : Nat) (m : Nat → Nat) (F G : Nat → Nat → Nat) (w : World) (hpr : p = 2 ∨ p = 3 ∨ p = 5 ∨ p = 7) (lm : ∀ k, k < 64 → m k < p) (d : Nat) (hd : deg m = (d : Int)) (hd1 : 1 ≤ d) (hd9 : d ≤ 9) (lF : ∀ i, i < 8 → ∀ k, k < 64 → F i k < p) (lG : ∀ i, i < 8 → rsd p m (G i)) (hs : skD F + skD G ≤ 7) :
 Calls Try.prog 15 #[.agg (zb 512 (fl 64 F)), .agg (fdC (p : Int) m).toArray, .agg (zb 512 (fl 64 G))] w fun e w' => e = .returned (.agg (zb 512 (fl 64 (tmP p m d F G)))) ∧ Below w.heap.size w w' := by
 have p0 : 0 < p := by omega
 have h0 : 0 ≤ deg m := by omega
 have h9 : deg m ≤ 9 := by omega
 obtain ⟨S, hS⟩ : ∃ S, S = spR p m d F G 8 8 := ⟨_, rfl⟩
 obtain ⟨q, hq⟩ : ∃ q, q = (skN S 16 + 1).toNat := ⟨_, rfl⟩
 have hq16 : q ≤ 16 := by have := (skN_bounds S 16).2; omega
 have HRW := Lib.hid (show ∀ i, i < 8 → q ≤ i → ∀ j, j < 64 → (fun _ _ => 0 : Nat → Nat → Nat) i j = S i j from fun i hi hqi j hj => by
  have := (skN_bounds S 16).1
  exact (eqN_iff.1 (skN_spec S 16 i (by omega) (by omega)) j hj).symm)
 have HSP := Lib.hid (show ∀ W (bf bg : Nat), Blk W bf 512 26 (fl 64 F) → Blk W bg 512 26 (fl 64 G) → Calls Try.prog 31 #[.agg (fdC (p : Int) m).toArray, .slice (some ⟨bf, 0, none⟩) 8 8, .slice (some ⟨bg, 0, none⟩) 8 8] W fun e w' => ∃ c, e = .returned (.slice (some ⟨c, 0, none⟩) q 16) ∧ W.heap.size ≤ c ∧ Blk w' c (16 * 64) 24 (fl 64 S) ∧ Below W.heap.size W w' from fun W bf bg h1 h2 => by
  rw [hq, hS]
  exact skewProduct_any p m F G 8 8 8 8 _ _ W hpr lm d hd hd1 hd9 (by omega) (by omega) lF lG (SlR.of8 h1) (SlR.of8 h2))
 have HP := Lib.hid (show zb 512 (fl 64 S) = zb 512 (fl 64 (tmP p m d F G)) from zbc (fl_congr (n := 8) (c := 64) (F := S) (G := tmP p m d F G) (by decide) (fun i hi j hj => by rw [hS]; exact spR_tmP hpr lm h0 h9 i j hj)))
 clear hS hq lF lG hd
 go_enter Try.func15, Try.ntmps15
 go_upto_region 1 with (fail)
 rw [← zero512]
 obtain ⟨W1, hwo⟩ : ∃ v : World, v = ((((w.alloc (.cells (zb 512 (fl 64 F)) 26)).alloc (.cells (fdC (p : Int) m).toArray 38)).alloc (.cells (zb 512 (fl 64 G)) 26)).alloc (.cells (zb 512 (fl 64 (fun _ _ => 0))) 26)) := ⟨_, rfl⟩
 have B0 : Blk W1 (w.heap.size) 512 26 (fl 64 F) := by subst hwo; have := ((((Blk.new w 512 26 (fl 64 F)).alloc (.cells (fdC (p : Int) m).toArray 38)).alloc (.cells (zb 512 (fl 64 G)) 26)).alloc (.cells (zb 512 (fl 64 (fun _ _ => 0))) 26)); simpa using this
 have B1 : Row W1 (w.heap.size + 1) 38 (fdC (p : Int) m).toArray := by subst hwo; have := (((Row.new (w.alloc (.cells (zb 512 (fl 64 F)) 26)) 38 (fdC (p : Int) m).toArray).alloc (.cells (zb 512 (fl 64 G)) 26)).alloc (.cells (zb 512 (fl 64 (fun _ _ => 0))) 26)); simpa using this
 have B2 : Blk W1 (w.heap.size + 1 + 1) 512 26 (fl 64 G) := by subst hwo; have := ((Blk.new ((w.alloc (.cells (zb 512 (fl 64 F)) 26)).alloc (.cells (fdC (p : Int) m).toArray 38)) 512 26 (fl 64 G)).alloc (.cells (zb 512 (fl 64 (fun _ _ => 0))) 26)); simpa using this
 have B3 : Blk W1 (w.heap.size + 1 + 1 + 1) 512 26 (fl 64 (fun _ _ => 0)) := by subst hwo; have := (Blk.new (((w.alloc (.cells (zb 512 (fl 64 F)) 26)).alloc (.cells (fdC (p : Int) m).toArray 38)).alloc (.cells (zb 512 (fl 64 G)) 26)) 512 26 (fl 64 (fun _ _ => 0))); simpa using this
 have hb : Below w.heap.size w W1 := by subst hwo; exact (((((Below.refl _ _).alloc (Nat.le_refl _) _).alloc (by simp) _).alloc (by simp; omega) _).alloc (by simp; omega) _)
 rw [← hwo]
 clear hwo
 go_upto_region 2 with (first | rw [← z64] | rw [← zero512])
 have lt_B0 := B0.lt
 have lt_B1 := B1.lt
 have lt_B2 := B2.lt
 have lt_B3 := B3.lt
 have lhb := hb.size
 obtain ⟨W2, hwo, hzQ⟩ : ∃ v : World, v = (W1.alloc (.cells (zb 512 (fl 64 (fun _ _ => 0))) 26)) ∧ Blk v (w.heap.size) 512 26 (fl 64 F) ∧ Row v (w.heap.size + 1) 38 (fdC (p : Int) m).toArray ∧ Blk v (w.heap.size + 1 + 1) 512 26 (fl 64 G) ∧ Blk v (w.heap.size + 1 + 1 + 1) 512 26 (fl 64 (fun _ _ => 0)) ∧ Blk v (W1.heap.size) 512 26 (fl 64 (fun _ _ => 0)) ∧ Below w.heap.size w v := ⟨_, rfl, (B0.alloc (.cells (zb 512 (fl 64 (fun _ _ => 0))) 26)), (B1.alloc (.cells (zb 512 (fl 64 (fun _ _ => 0))) 26)), (B2.alloc (.cells (zb 512 (fl 64 (fun _ _ => 0))) 26)), (B3.alloc (.cells (zb 512 (fl 64 (fun _ _ => 0))) 26)), (Blk.new W1 512 26 (fl 64 (fun _ _ => 0))), (hb.alloc (by have := hb.size; simp; omega) (.cells (zb 512 (fl 64 (fun _ _ => 0))) 26))⟩
 rw [← hwo]
 clear hwo B0 B1 B2 B3 hb
 obtain ⟨B0, B1, B2, B3, B4, hb⟩ := hzQ
 obtain ⟨N1, hNN⟩ : ∃ n : Nat, n = W1.heap.size := ⟨_, rfl⟩
 rw [← hNN] at lt_B0 lt_B1 lt_B2 lt_B3 lhb B4 ⊢
 clear hNN
 have zN1_0 := lt_B0
 have zN1_1 := lt_B1
 have zN1_2 := lt_B2
 have zN1_3 := lt_B3
 have zN1 := lhb
 clear lt_B0 lt_B1 lt_B2 lt_B3 lhb
 try simp only [Act.put, pA, pB, pC]
 have lt_B0 := B0.lt
 have lt_B1 := B1.lt
 have lt_B2 := B2.lt
 have lt_B3 := B3.lt
 have lt_B4 := B4.lt
 have hbase := hb.size
 refine zq Try.mixed (by kernel_rfl) (by kernel_rfl) (fun v => by (simp only [frL, Act.put, pA, pB, pC, Nat.reduceAdd, Nat.zero_add]; exact rfl))
  (fun L v wx => Below w.heap.size w wx ∧ W2.heap.size ≤ wx.heap.size ∧ Blk wx (w.heap.size) 512 26 (fl 64 (F)) ∧ Row wx (w.heap.size + 1) 38 (fdC (p : Int) m).toArray ∧ Blk wx (w.heap.size + 1 + 1) 512 26 (fl 64 (G)) ∧ Blk wx (w.heap.size + 1 + 1 + 1) 512 26 (fl 64 (fun _ _ => 0)) ∧ (∃ Y, Blk wx (N1) 512 26 (fl 64 (Y)) ∧ (L 5 = false → Y = fun _ _ => 0) ∧ (L 5 = true → Y = S)) ∧ (L 0 = true → v 0 = (.slice (some ⟨N1, 0, none⟩) 8 8)) ∧ (L 1 = true → v 1 = (.agg (fdC (p : Int) m).toArray)) ∧ (L 2 = true → v 2 = (.slice (some ⟨w.heap.size, 0, none⟩) 8 8)) ∧ (L 3 = true → v 3 = (.slice (some ⟨w.heap.size + 1 + 1, 0, none⟩) 8 8)) ∧ (L 4 = true → (∃ c, v 4 = .slice (some ⟨c, 0, none⟩) q 16 ∧ W2.heap.size ≤ c ∧ Blk wx c (16 * 64) 24 (fl 64 S)))) ?_ ?_ ?_
 · intro v hv0
   exact ⟨hb.drew, Nat.le_refl _, B0.drew, B1.drew, B2.drew, B3.drew, ⟨_, B4.drew, (fun _ => rfl), (fun h => by cases h)⟩, (fun h => by cases h), (fun h => by cases h), (fun h => by cases h), (fun h => by cases h), (fun h => by cases h)⟩
 · refine (.cons rfl ?_ (.cons rfl ?_ (.cons rfl ?_ (.cons rfl ?_ (.cons rfl ?_ (.cons rfl ?_ (.nil _)))))))
   · intro L v wx hd hn ⟨hB, hz, s0, s1, s2, s3, ⟨Y, s4, y0, y1⟩, h0', h1', h2', h3', h4'⟩ K hK
     go_wp2_with fail
     exact hK _ (.slice (some ⟨N1, 0, none⟩) 8 8) _ (by simp only [Act.put, pA, pB, pC]) ⟨hB, hz, s0, s1, s2, s3, ⟨Y, s4, fun h => y0 h, fun h => y1 h⟩, (fun _ => rfl), h1', h2', h3', h4'⟩
   · intro L v wx hd hn ⟨hB, hz, s0, s1, s2, s3, ⟨Y, s4, y0, y1⟩, h0', h1', h2', h3', h4'⟩ K hK
     refine wp_load_rowv 38 _ rfl _ rfl 38 _ s1 _ Try.underlying38 rfl 65 Try.size38 (by simp [fdC_len]) ?_
     exact hK _ _ _ rfl ⟨hB, hz, s0, s1, s2, s3, ⟨Y, s4, fun h => y0 h, fun h => y1 h⟩, h0', (fun _ => rfl), h2', h3', h4'⟩
   · intro L v wx hd hn ⟨hB, hz, s0, s1, s2, s3, ⟨Y, s4, y0, y1⟩, h0', h1', h2', h3', h4'⟩ K hK
     go_wp2_with fail
     exact hK _ (.slice (some ⟨w.heap.size, 0, none⟩) 8 8) _ (by simp only [Act.put, pA, pB, pC]) ⟨hB, hz, s0, s1, s2, s3, ⟨Y, s4, fun h => y0 h, fun h => y1 h⟩, h0', h1', (fun _ => rfl), h3', h4'⟩
   · intro L v wx hd hn ⟨hB, hz, s0, s1, s2, s3, ⟨Y, s4, y0, y1⟩, h0', h1', h2', h3', h4'⟩ K hK
     go_wp2_with fail
     exact hK _ (.slice (some ⟨w.heap.size + 1 + 1, 0, none⟩) 8 8) _ (by simp only [Act.put, pA, pB, pC]) ⟨hB, hz, s0, s1, s2, s3, ⟨Y, s4, fun h => y0 h, fun h => y1 h⟩, h0', h1', h2', (fun _ => rfl), h4'⟩
   · intro L v wx hd hn ⟨hB, hz, s0, s1, s2, s3, ⟨Y, s4, y0, y1⟩, h0', h1', h2', h3', h4'⟩ K hK
     have e1 := h1' (zdq hd 1 rfl)
     have e2 := h2' (zdq hd 2 rfl)
     have e3 := h3' (zdq hd 3 rfl)
     go_wp2_with (go_at_call 31; refine (HSP.out _ _ _ s0 s2).mono ?_; rintro e wy ⟨c, rfl, hc, sc, hy⟩)
     exact hK _ (.slice (some ⟨c, 0, none⟩) q 16) _ (by simp only [Act.put, pA, pB, pC, e1, e2, e3]) ⟨hB.trans (hy.mono hB.size), Nat.le_trans hz hy.size, s0.zw hy, s1.zw hy, s2.zw hy, s3.zw hy, ⟨Y, s4.zw hy, fun h => y0 h, fun h => y1 h⟩, h0', h1', h2', h3', fun _ => ⟨c, rfl, by omega, sc⟩⟩
   intro L v wx hd hn ⟨hB, hz, s0, s1, s2, s3, ⟨Y, s4, y0, y1⟩, h0', h1', h2', h3', h4'⟩ K hK
   have e0 := h0' (zdq hd 0 rfl)
   obtain ⟨c, e4, hcw, sc⟩ := h4' (zdq hd 4 rfl)
   have hY : ∀ i, i < 8 → q ≤ i → ∀ j, j < 64 → Y i j = S i j := by
    cases hL : L 5 with
    | false => rw [y0 hL]; exact HRW.out
    | true => rw [y1 hL]; exact fun _ _ _ _ _ => rfl
   refine wp_copy_rows (.tmp 8) (.tmp 12) 58 58 rfl 24 Try.underlying58 Try.size24 _ c 8 8 q 16 16 26 24 Y S e0 e4 s4 sc hq16 hY ?_
   exact hK _ _ _ rfl ⟨zr hB (by omega) _, by simpa [World.setRow] using hz, s0.rowOther (by omega), s1.rowOther (by omega), s2.rowOther (by omega), s3.rowOther (by omega), ⟨S, s4.row _, fun h => absurd h (by simp [setL]), fun _ => rfl⟩, h0', h1', h2', h3', fun h => let ⟨c, a1, a2, a3⟩ := h4' h; ⟨c, a1, a2, a3.rowOther (by omega)⟩⟩
 intro L v wx hL ⟨hB, hz, s0, s1, s2, s3, ⟨Y, s4, y0, y1⟩, h0', h1', h2', h3', h4'⟩
 have e0 := h0' (hL 0 (by decide))
 rw [y1 (hL 5 (by decide))] at s4
 clear hL h0' h1' h2' h3' h4' y0 y1 B0 B1 B2 B3 B4 hb
 have hb := hB
 have B3 := s3
 have B4 := s4
 clear s0 s1 s2 s3 s4 hB
 go_upto_region 3 with (fail)
 have lt_B3 := B3.lt
 have lt_B4 := B4.lt
 go_wp2_with (first | rw [← z64] | rw [← zero512] | (refine zla (.tmp 7) B4 Try.underlying26 Try.size26 ?_) | (refine zsr (.tmp 6) (.tmp 14) (fl 64 S) B3 Try.size26 ?_; try simp only [Act.put]))
 obtain ⟨W3, hwo, hzQ⟩ : ∃ v : World, v = (wx.setRow (w.heap.size + 1 + 1 + 1) (zb 512 (fl 64 S))) ∧ Blk v (w.heap.size + 1 + 1 + 1) 512 26 (fl 64 S) ∧ Blk v (N1) 512 26 (fl 64 S) ∧ Below w.heap.size w v := ⟨_, rfl, (B3.row (fl 64 S)), (B4.rowOther (by omega)), (zr hb (by omega) _)⟩
 rw [← hwo]
 clear hwo B3 B4 hb
 obtain ⟨B3, B4, hb⟩ := hzQ
 try simp only [Act.put, pA, pB, pC]
 refine bodyPost_ret (results_any rfl _ _ _ 512 _ _ rfl B3 _ Try.underlying26 rfl Try.size26) rfl ⟨by rw [HP.out], hb⟩
end Go.Proofs.Ytoncepgcfifgbab
namespace Go.Proofs.Ytoncepgcfifgbab
open Go Go.RowKit
theorem ckS_irr {n d : Nat} {m : Nat → Nat} {Fs : List (Nat → Nat → Nat)} (h : ckS (n : Int) m Fs = 0) (hmon : mon m d) : irr n (cut m) d := by
 obtain ⟨h1, _⟩ := ckS_zero h
 have ho : okA (n : Int) m = true := by
  cases ho : okA (n : Int) m with
  | true => rfl
  | false => rw [flV_1 ho] at h1; cases h1
 have hm : monUp 4 m = true := by
  cases hm : monUp 4 m with
  | true => rfl
  | false => rw [flV_2 hm] at h1; cases h1
 rw [flV_3 ho hm] at h1
 obtain ⟨d2, hi⟩ := irB_iff.1 h1
 have e1 := hi.2.1.1
 have e2 := (mon_cut hmon).1
 have : d2 = d := by omega
 subst this; exact hi
attribute [local irreducible] deg addK okA flV skA
end Go.Proofs.Ytoncepgcfifgbab
namespace Go.Proofs.Ytoncepgcfifgbab
open Rg
theorem rs_cong {p : Nat} {m : Nat → Int} {f g : Nat → Nat} (h : ∀ k, k < 64 → f k = g k) : (rs f : Res p m) = rs g := cl_congr (by
 funext k
 unfold lz cut
 by_cases hk : k < 64
 · rw [if_pos hk, if_pos hk, h k hk]
 rw [if_neg hk, if_neg hk])
theorem rs_oneP {p : Nat} {m : Nat → Int} : (rs oneP : Res p m) = e := cl_congr one_lz
theorem tmJ_in {p : Nat} {m : Nat → Nat} {d : Nat} {F G O : Nat → Nat → Nat} {i : Nat} : ∀ j s, s < j → tmJ p m d F G i O j (i + s) = addK p (O (i + s)) (mmP p (F i) (frN p m (G s) (i % d)) m) 1
 | 0, s, h => absurd h (Nat.not_lt_zero s)
 | j + 1, s, h => by
  by_cases hs : s = j
  · subst hs; rw [tmJ_s, updR_same, tmJ_hi s (i + s) (Nat.le_refl _)]
  rw [tmJ_s, updR_other (by omega)]; exact tmJ_in j s (by omega)
theorem skD_congr {F G : Nat → Nat → Nat} (h : ∀ i, i < 8 → ∀ k, k < 64 → F i k = G i k) : skD F = skD G := by
 obtain ⟨a1, a2⟩ := zsd F
 obtain ⟨b1, b2⟩ := zsd G
 have h1 : skD F < skD G + 1 := by
  have := skD_lt (F := F) (n := (skD G + 1).toNat) (fun i hi hi8 k hk => by
   rw [h i hi8 k hk]
   exact eqN_iff.1 (skN_spec G 8 i hi8 (by have : skN G 8 = skD G := rfl; omega)) k hk)
  omega
 have h2 : skD G < skD F + 1 := by
  have := skD_lt (F := G) (n := (skD F + 1).toNat) (fun i hi hi8 k hk => by
   rw [← h i hi8 k hk]
   exact eqN_iff.1 (skN_spec F 8 i hi8 (by have : skN F 8 = skD F := rfl; omega)) k hk)
  omega
 omega
theorem skD_zero {F : Nat → Nat → Nat} (h : skD F < 0) : ∀ i, i < 8 → ∀ k, k < 64 → F i k = 0 := fun i hi k hk =>
 eqN_iff.1 (skN_spec F 8 i hi (by have : skN F 8 = skD F := rfl; omega)) k hk
theorem skD_z0 : skD (fun _ _ => 0) = -1 := by
 obtain ⟨b1, b2⟩ := zsd (fun _ _ => 0)
 have := skD_lt (F := fun _ _ => 0) (n := 0) (fun _ _ _ _ _ => rfl)
 omega
theorem skD_at {F : Nat → Nat → Nat} {n : Nat} (h8 : n < 8) (h : 0 ≤ deg (F n)) (h2 : ∀ i, n < i → i < 8 → ∀ k, k < 64 → F i k = 0) : skD F = (n : Int) := by
 have h1 := skD_lt (F := F) (n := n + 1) (fun i hi => h2 i (by omega))
 by_cases h3 : skD F < (n : Int)
 · have h4 := eqN_iff.1 (skN_spec F 8 n h8 (by unfold skD at h3; exact h3))
   obtain ⟨k, hk, h5⟩ := deg_nonneg h
   exact absurd (h4 k hk) h5
 omega
section
variable {p : Nat} {m : Nat → Nat} {d : Nat} (hp : p = 2 ∨ p = 3 ∨ p = 5 ∨ p = 7) (lm : ∀ k, k < 64 → m k < p) (hmon : mon m d) (hi : irr p (cut m) d) (h9 : d ≤ 9)
include hp lm hmon hi h9
theorem zero_of_rs {a : Nat → Nat} (ha : rsd p m a) (h : (rs a : Res p (lz m)) = o) : deg a < 0 := by
 have _u0 := hi
 have h0 : 0 ≤ deg m := by rw [hmon.1]; omega
 by_cases h1 : deg a < 0
 · exact h1
 have h5 := rsd_eq hp lm h0 ha (zero_rsd (by omega) h0) (by rw [h, rs_zero])
 obtain ⟨k, hk, h6⟩ := deg_nonneg (x := a) (by omega)
 exact absurd (h5 k hk) h6
theorem mm_ne {a b : Nat → Nat} (ha : rsd p m a) (ha0 : 0 ≤ deg a) (hb : rsd p m b) (hb0 : 0 ≤ deg b) : 0 ≤ deg (mmP p a b m) := by
 have h0 : 0 ≤ deg m := by rw [hmon.1]; omega
 by_cases h : 0 ≤ deg (mmP p a b m)
 · exact h
 exfalso
 have h1 : (rs (mmP p a b m) : Res p (lz m)) = o := by rw [← rs_zero]; exact rs_cong (dgz_out (by omega))
 rw [rs_mm hp lm h0] at h1
 have h2 : (rs a : Res p (lz m)) = o := by
  have h3 := inv_res hp lm hmon hi hb hb0
  have h4 : (rs a * rs b) * rs (bzU p b m) = (o : Res p (lz m)) := by rw [h1, omul]
  rw [massoc, mcomm (rs b), h3, mule] at h4
  exact h4
 have := zero_of_rs hp lm hmon hi h9 ha h2
 omega
theorem one_rsd : rsd p m oneP := by
 have _u0 := lm
 refine ⟨fun k _ => by unfold oneP; split <;> omega, ?_⟩
 have := hi.1
 rw [hmon.1, deg_one]; omega
theorem tmP_deg {F G : Nat → Nat → Nat} {a b : Nat} (hF : rsk p m F) (hG : rsk p m G) (hFa : skD F = (a : Int)) (hGb : skD G = (b : Int)) (hab : a + b ≤ 7) : skD (tmP p m d F G) = ((a + b : Nat) : Int) := by
 have h0 : 0 ≤ deg m := by rw [hmon.1]; omega
 obtain ⟨a8, fa⟩ := skN_row hFa
 obtain ⟨b8, gb⟩ := skN_row hGb
 have hd1 := hi.1
 have rb := (frN_ok hp lm h0 (by rw [hmon.1]; omega) (hG b b8) (a % d)).1
 have h2 : 0 ≤ deg (mmP p (F a) (frN p m (G b) (a % d)) m) := mm_ne hp lm hmon hi h9 (hF a a8) fa rb (frN_ne hp lm hmon hi h9 (hG b b8) gb (Nat.le_of_lt (Nat.mod_lt _ (by omega))))
 have h3 : 0 ≤ deg (tmP p m d F G (a + b)) := deg_congr0 (fun k hk => (tmP_top (by omega) hFa hGb k hk).symm) h2
 exact skD_at (by omega) h3 (fun i h _ k _ => by rw [tmP_hi hFa hGb h])
theorem tmP_const {c : Nat → Nat} {G : Nat → Nat → Nat} (hc : 0 ≤ deg c) (hG : rsk p m G) : ∀ i, i < 8 → ∀ k, k < 64 → tmP p m d (sng 0 c) G i k = mmP p c (G i) m k := by
 have _u0 := hi
 intro i hi8 k hk
 have h0 : 0 ≤ deg m := by rw [hmon.1]; omega
 have e0 : skD (sng 0 c) = ((1 : Nat) : Int) - 1 := by rw [sng_deg (by omega) hc]; rfl
 obtain ⟨b1, b2⟩ := zsd G
 obtain ⟨n, hn⟩ : ∃ n : Nat, skD G = (n : Int) - 1 := ⟨(skD G + 1).toNat, by omega⟩
 rw [tmP_at e0 hn, tmR_s, tmR_z]
 by_cases h : i < n
 · have := tmJ_in (p := p) (m := m) (d := d) (F := sng 0 c) (G := G) (O := fun _ _ => 0) (i := 0) n i h
   rw [Nat.zero_add] at this
   rw [this, addK_one, Nat.zero_mod, frN_z]
   show (0 + _) % p = _
   rw [Nat.zero_add, show sng 0 c 0 = c from updR_same _ _ _, Nat.mod_eq_of_lt (mmP_lt (by omega) k (by omega))]
 rw [tmJ_hi n i (by omega)]
 have hz := eqN_iff.1 (skN_spec G 8 i hi8 (by unfold skD at hn; omega))
 rw [mmP_congr2 hp lm h0 (b' := fun _ => 0) hz k hk]
 exact ((rsd_eq hp lm h0 (mm_rsd hp lm h0) (zero_rsd (by omega) h0) (by rw [rs_mm hp lm h0, rs_zero, mulo])) k hk).symm
end
def moS (p : Nat) (m : Nat → Nat) (F : Nat → Nat → Nat) : Nat → Nat → Nat := fun i => mmP p (bzU p (F (skD F).toNat) m) (F i) m
section
variable {p : Nat} {m : Nat → Nat} {d : Nat} (hp : p = 2 ∨ p = 3 ∨ p = 5 ∨ p = 7) (lm : ∀ k, k < 64 → m k < p) (hmon : mon m d) (hi : irr p (cut m) d) (h9 : d ≤ 9)
include hp lm hmon hi h9
theorem sng_rsk {c : Nat → Nat} (n : Nat) (hc : rsd p m c) : rsk p m (sng n c) := by
 have _u0 := lm
 have _u1 := hi
 intro i _
 unfold sng
 by_cases h : i = n
 · subst h; rw [updR_same]; exact hc
 rw [updR_other h]; exact zero_rsd (by omega) (by rw [hmon.1]; omega)
theorem mo_ne {y : Nat → Nat} (hy : rsd p m y) (hy0 : 0 ≤ deg y) : 0 ≤ deg (mmP p oneP (bzU p y m) m) := by
 have h0 : 0 ≤ deg m := by rw [hmon.1]; omega
 by_cases h : 0 ≤ deg (mmP p oneP (bzU p y m) m)
 · exact h
 exfalso
 have h1 : (rs (mmP p oneP (bzU p y m) m) : Res p (lz m)) = o := by rw [← rs_zero]; exact rs_cong (dgz_out (by omega))
 rw [rs_mm hp lm h0, rs_oneP, emul] at h1
 have h2 := inv_res hp lm hmon hi hy hy0
 rw [h1, omul] at h2
 have h3 : (rs y : Res p (lz m)) = o := by rw [← emul (rs y), ← h2, omul]
 have := zero_of_rs hp lm hmon hi h9 hy h3
 omega
theorem moS_eq {F : Nat → Nat → Nat} (hF : rsk p m F) (hn : 0 ≤ skD F) : ∀ i, i < 8 → ∀ k, k < 64 → tmP p m d (sng 0 (mmP p oneP (bzU p (F (skD F).toNat) m) m)) F i k = moS p m F i k := by
 intro i hi8 k hk
 have h0 : 0 ≤ deg m := by rw [hmon.1]; omega
 obtain ⟨n, hn2⟩ : ∃ n : Nat, skD F = (n : Int) := ⟨(skD F).toNat, by omega⟩
 obtain ⟨n8, fn⟩ := skN_row hn2
 have e1 : (skD F).toNat = n := by omega
 rw [tmP_const hp lm hmon hi h9 (by rw [e1]; exact mo_ne hp lm hmon hi h9 (hF n n8) fn) hF i hi8 k hk]
 unfold moS
 exact rsd_eq hp lm h0 (mm_rsd hp lm h0) (mm_rsd hp lm h0) (by rw [rs_mm hp lm h0, rs_mm hp lm h0, rs_mm hp lm h0, rs_oneP, emul]) k hk
theorem moS_mod {F : Nat → Nat → Nat} (hF : rsk p m F) (hn : 0 ≤ skD F) : ∀ i, i < 8 → ∀ k, k < 64 → mmP p (resP p (bzU p (F (skD F).toNat) m) m) (F i) m k = moS p m F i k := by
 have _u0 := hi
 intro i hi8 k hk
 have h0 : 0 ≤ deg m := by rw [hmon.1]; omega
 unfold moS
 exact rsd_eq hp lm h0 (mm_rsd hp lm h0) (mm_rsd hp lm h0) (by rw [rs_mm hp lm h0, rs_mm hp lm h0, rs_res hp (fun k _ => bzU_lt (by omega) k) lm h0]) k hk
theorem moS_deg {F : Nat → Nat → Nat} (hF : rsk p m F) (hn : 0 ≤ skD F) : skD (moS p m F) = skD F := by
 obtain ⟨n, hn2⟩ : ∃ n : Nat, skD F = (n : Int) := ⟨(skD F).toNat, by omega⟩
 obtain ⟨n8, fn⟩ := skN_row hn2
 have e1 : (skD F).toNat = n := by omega
 have h0 : 0 ≤ deg m := by rw [hmon.1]; omega
 rw [← skD_congr (moS_eq hp lm hmon hi h9 hF hn), e1, tmP_deg hp lm hmon hi h9 (sng_rsk hp lm hmon hi h9 0 (mm_rsd hp lm h0)) hF (a := 0) (b := n) (sng_deg (by omega) (mo_ne hp lm hmon hi h9 (hF n n8) fn)) hn2 (by omega), hn2, Nat.zero_add]
end
attribute [irreducible] moS
end Go.Proofs.Ytoncepgcfifgbab
namespace Go.Proofs.Ytoncepgcfifgbab
open Go Go.RowKit
def skE (F G : Nat → Nat → Nat) : Bool := (List.range 8).all fun i => eqN 64 (F i) (G i)
theorem skE_iff {F G : Nat → Nat → Nat} : skE F G = true ↔ ∀ i, i < 8 → ∀ k, k < 64 → F i k = G i k := by
 simp only [skE, List.all_eq_true, List.mem_range, eqN_iff]
theorem skE_zero (F : Nat → Nat → Nat) : skE F (fun _ _ => 0) = decide (skD F < 0) := by
 by_cases h : skD F < 0
 · rw [decide_eq_true h]; exact skE_iff.2 (skD_zero h)
 rw [decide_eq_false h]
 cases he : skE F (fun _ _ => 0) with
 | false => rfl
 | true =>
  exfalso; apply h
  rw [skD_congr (skE_iff.1 he), skD_z0]; omega
section
variable {P : Program}
theorem run_part_sk (w : World) (e i : Nat) (F : Nat → Nat → Nat) (u : TypeId) (he : P.underlying e = some (.array 64 u)) (hs : (P.info? e).map (·.size) = some 64) (hi : i < 8) : (part e (zb 512 (fl 64 F)) (i * 64)).run P w = .ok (.agg (zb 64 (F i))) w := by
 cases hq : P.info? e with
 | none => simp [hq] at hs
 | some ie =>
  have hsz : ie.size = 64 := by simpa [hq] using hs
  have hagg : (isAgg e).run P w = .ok true w := by
   unfold isAgg
   rw [Sem.run_bind, run_underlying he w]
   rfl
  have hx : List.take 64 (List.drop (i * 64) (bl 512 (fl 64 F))) = bl 64 (F i) := by
   have := congrArg Array.toList (extract_sk (F := F) hi)
   simpa using this
  simp [part, Sem.run_bind, hagg, sizeOf, typeInfo, hq, hsz]
  exact hx
theorem run_equalIn_sk (w : World) (d t e u : Nat) (F G : Nat → Nat → Nat) (hu : P.underlying t = some (.array 8 e)) (he : P.underlying e = some (.array 64 u)) (hU : P.underlying u = some (.int .u8)) (hse : (P.info? e).map (·.size) = some 64) (hsu : (P.info? u).map (·.size) = some 1) :
 (Op.equalIn (d + 3) t (.agg (zb 512 (fl 64 F))) (.agg (zb 512 (fl 64 G)))).run P w = .ok (skE F G) w := by
 have hsz : (sizeOf e).run P w = .ok 64 w := by
  cases hq : P.info? e with
  | none => simp [hq] at hse
  | some i =>
   have : i.size = 64 := by simpa [hq] using hse
   simp [sizeOf, typeInfo, hq, this, Sem.run_bind]
 rw [Op.equalIn]
 simp only [Sem.run_bind, run_underlying hu, Result.andThen_ok, hsz]
 rw [Std.Legacy.Range.forIn_eq_forIn_range']
 have key : ∀ l : List Nat, (∀ i, i ∈ l → i < 8) → (forIn l ((none : Option Bool), ()) fun i __s => (do
           let __do_lift ← part e (zb 512 (fl 64 F)) (i * 64)
           let __do_lift_1 ← part e (zb 512 (fl 64 G)) (i * 64)
           let __do_lift ← Op.equalIn (d + 2) e __do_lift __do_lift_1
           if (!__do_lift) = true then pure (ForInStep.done (some false, ())) else pure (ForInStep.yield (none, ())) : Sem (ForInStep (Option Bool × Unit)))).run P w = .ok (if (l.all fun i => eqN 64 (F i) (G i)) then none else some false, ()) w := by
  intro l
  induction l with
  | nil => intro _; simp
  | cons i l ih =>
   intro hl
   have hi := hl i (by simp)
   rw [List.forIn_cons]
   simp only [Sem.run_bind, run_part_sk w e i F u he hse hi, run_part_sk w e i G u he hse hi, Result.andThen_ok, zeb w d e u 64 _ _ he hU hsu]
   cases h : eqN 64 (F i) (G i) with
   | true =>
    simp only [Bool.not_true, Bool.false_eq_true, if_false, Sem.run_pure, Result.andThen_ok, List.all_cons, h, Bool.true_and]
    exact ih (fun j hj => hl j (by simp [hj]))
   | false => simp [List.all_cons, h]
 have hr := key (List.range' 0 8) (fun i hi => by simpa using hi)
 have e1 : (List.range' 0 8).all (fun i => eqN 64 (F i) (G i)) = skE F G := by rw [skE, List.range_eq_range']
 rw [e1] at hr
 have e2 : ([:8].size) = 8 := by simp [Std.Legacy.Range.size]
 rw [show (List.range' [:8].start [:8].size [:8].step) = List.range' 0 8 by rw [e2]]
 rw [hr]
 cases skE F G <;> simp
theorem results_any2 {fn : Func} {p p2 : Tmp} {ty ty2 : TypeId} (h : fn.results = #[.cell p ty, .cell p2 ty2]) (tmps : Array Value) (w : World) (b n : Nat) (t : TypeId) (f : Nat → Nat) (b2 n2 : Nat) (t2 : TypeId) (f2 : Nat → Nat)
 (hp : tmps.getD p undef = .pointer (some ⟨b, 0, none⟩)) (hb : Blk w b n t f) (d : TypeDesc) (hu : P.underlying ty = some d) (hd : (match d with | .struct _ | .array _ _ => true | _ => false) = true) (hi : (P.info? ty).map (·.size) = some n)
 (hp2 : tmps.getD p2 undef = .pointer (some ⟨b2, 0, none⟩)) (hb2 : Blk w b2 n2 t2 f2) (d2 : TypeDesc) (hu2 : P.underlying ty2 = some d2) (hd2 : (match d2 with | .struct _ | .array _ _ => true | _ => false) = true) (hi2 : (P.info? ty2).map (·.size) = some n2) :
 (results fn tmps).run P w = .ok (.tuple #[.agg (zb n f), .agg (zb n2 f2)]) w := by
 have hp' : tmps[p]?.getD undef = .pointer (some ⟨b, 0, none⟩) := by simpa using hp
 have hp2' : tmps[p2]?.getD undef = .pointer (some ⟨b2, 0, none⟩) := by simpa using hp2
 simp [results, h, hp', hp2', asAddr, run_loadVar_any w b n t ty f hb d hu hd hi, run_loadVar_any w b2 n2 t2 ty2 f2 hb2 d2 hu2 hd2 hi2]
end
def skAt (w : World) (b : Nat) : Nat := match w.heap[b]? with
 | some (.cells cs _ _) => (skD (fun i j => match cs[i * 64 + j]? with
  | some (.int _ v) => v.toNat
  | _ => 0) + 1).toNat
 | _ => 0
theorem skAt_blk {w : World} {b : Nat} {t : TypeId} {F : Nat → Nat → Nat} (h : Blk w b 512 t (fl 64 F)) : skAt w b = (skD F + 1).toNat := by
 unfold skAt
 have e : w.heap[b]? = some (.cells (zb 512 (fl 64 F)) t (0, 0)) := by unfold Blk at h; exact h
 rw [e]
 simp only
 rw [skD_congr (G := F) (fun i hi j hj => by rw [bcells_get (f := fl 64 F) (show i * 64 + j < 512 by omega), fl_at hj]; simp)]
theorem Try.noGuard26 : Try.prog.eqGuardType Try.prog.depth 26 = false := by kernel_rfl
end Go.Proofs.Ytoncepgcfifgbab
namespace Go.Proofs.Ytoncepgcfifgbab
open Rg
def gdR (p : Nat) (T N : (Nat → Nat → Nat) → (Nat → Nat → Nat)) (g : Int) : Nat → (Nat → Nat → Nat) → (Nat → Nat → Nat) → (Nat → Nat → Nat) × (Nat → Nat → Nat)
 | 0, Q, F => (Q, F)
 | fu + 1, Q, F => if skD F < g then (Q, F) else gdR p T N g fu (skA p Q (T F) 1) (N F)
def gdU (A : (Nat → Nat → Nat) → (Nat → Nat)) (N : (Nat → Nat → Nat) → (Nat → Nat → Nat)) (g : Int) : Nat → (Nat → Nat → Nat) → (Nat → Nat → Nat) → (Nat → Nat → Nat) × (Nat → Nat → Nat)
 | 0, Q, F => (Q, F)
 | fu + 1, Q, F => if skD F < g then (Q, F) else gdU A N g fu (updR Q ((skD F).toNat - g.toNat) (A F)) (N F)
theorem gdR_stop {p : Nat} {T N : (Nat → Nat → Nat) → (Nat → Nat → Nat)} {g : Int} {fu : Nat} {Q F : Nat → Nat → Nat} (h : skD F < g) : gdR p T N g fu Q F = (Q, F) := by
 cases fu with
 | zero => rfl
 | succ n => rw [gdR, if_pos h]
theorem gdR_step {p : Nat} {T N : (Nat → Nat → Nat) → (Nat → Nat → Nat)} {g : Int} {fu : Nat} {Q F : Nat → Nat → Nat} (h : ¬ skD F < g) : gdR p T N g (fu + 1) Q F = gdR p T N g fu (skA p Q (T F) 1) (N F) := by rw [gdR, if_neg h]
theorem gdU_stop {A : (Nat → Nat → Nat) → (Nat → Nat)} {N : (Nat → Nat → Nat) → (Nat → Nat → Nat)} {g : Int} {fu : Nat} {Q F : Nat → Nat → Nat} (h : skD F < g) : gdU A N g fu Q F = (Q, F) := by
 cases fu with
 | zero => rfl
 | succ n => rw [gdU, if_pos h]
theorem gdU_step {A : (Nat → Nat → Nat) → (Nat → Nat)} {N : (Nat → Nat → Nat) → (Nat → Nat → Nat)} {g : Int} {fu : Nat} {Q F : Nat → Nat → Nat} (h : ¬ skD F < g) : gdU A N g (fu + 1) Q F = gdU A N g fu (updR Q ((skD F).toNat - g.toNat) (A F)) (N F) := by rw [gdU, if_neg h]
def GD (p : Nat) (m : Nat → Nat) (A : (Nat → Nat → Nat) → (Nat → Nat)) (T N : (Nat → Nat → Nat) → (Nat → Nat → Nat)) (g : Int) : Prop :=
 0 ≤ g ∧ ∀ F, rsk p m F → g ≤ skD F → T F = sng ((skD F).toNat - g.toNat) (A F) ∧ rsd p m (A F) ∧ 0 ≤ deg (A F) ∧ rsk p m (T F) ∧ rsk p m (N F) ∧ skD (N F) < skD F
theorem skA_rsk {p : Nat} {m : Nat → Nat} {F G : Nat → Nat → Nat} {c : Int} (hp : 0 < p) (h0 : 0 ≤ deg m) (hF : rsk p m F) (hG : rsk p m G) : rsk p m (skA p F G c) := fun i hi => addK_rsd hp h0 (hF i hi) (hG i hi)
section
variable {p : Nat} {m : Nat → Nat} {A : (Nat → Nat → Nat) → (Nat → Nat)} {T N : (Nat → Nat → Nat) → (Nat → Nat → Nat)} {g : Int} (hp : 0 < p) (h0 : 0 ≤ deg m) (H : GD p m A T N g)
include hp h0 H
theorem gdR_ok : ∀ (fu : Nat) Q F, rsk p m Q → rsk p m F → skD F < (fu : Int) → rsk p m (gdR p T N g fu Q F).1 ∧ rsk p m (gdR p T N g fu Q F).2 ∧ skD (gdR p T N g fu Q F).2 < g
 | 0, Q, F, hQ, hF, h => ⟨hQ, hF, by have := H.1; show skD F < g; omega⟩
 | fu + 1, Q, F, hQ, hF, h => by
  by_cases h2 : skD F < g
  · rw [gdR_stop h2]; exact ⟨hQ, hF, h2⟩
  obtain ⟨_, _, _, h4, h5, h6⟩ := H.2 F hF (by omega)
  rw [gdR_step h2]
  exact gdR_ok fu _ _ (skA_rsk hp h0 hQ h4) h5 (by omega)
theorem gdR_keep : ∀ (fu : Nat) Q F (r : Nat), rsk p m Q → rsk p m F → r < 8 → skD F < (r : Int) + g → ∀ k, k < 64 → (gdR p T N g fu Q F).1 r k = Q r k
 | 0, Q, F, r, hQ, hF, hr, h, k, hk => rfl
 | fu + 1, Q, F, r, hQ, hF, hr, h, k, hk => by
  by_cases h2 : skD F < g
  · rw [gdR_stop h2]
  obtain ⟨h3, _, _, h4, h5, h6⟩ := H.2 F hF (by omega)
  have hg := H.1
  rw [gdR_step h2, gdR_keep fu _ _ r (skA_rsk hp h0 hQ h4) h5 hr (by omega) k hk]
  show addK p (Q r) (T F r) 1 k = Q r k
  exact addK_zero (hQ r hr).1 (fun k _ => by rw [h3]; unfold sng; rw [updR_other (by omega)]) k hk
theorem gdU_eq : ∀ (fu : Nat) Q Q' F, rsk p m Q' → rsk p m F → (∀ r, r < 8 → ∀ k, k < 64 → Q r k = Q' r k) → (∀ r : Nat, r < 8 → (r : Int) + g ≤ skD F → ∀ k, k < 64 → Q' r k = 0) →
 (gdU A N g fu Q F).2 = (gdR p T N g fu Q' F).2 ∧ ∀ r, r < 8 → ∀ k, k < 64 → (gdU A N g fu Q F).1 r k = (gdR p T N g fu Q' F).1 r k
 | 0, Q, Q', F, hQ, hF, he, hz => ⟨rfl, he⟩
 | fu + 1, Q, Q', F, hQ, hF, he, hz => by
  by_cases h2 : skD F < g
  · rw [gdR_stop h2, gdU_stop h2]; exact ⟨rfl, he⟩
  obtain ⟨h3, h7, _, h4, h5, h6⟩ := H.2 F hF (by omega)
  have hg := H.1
  obtain ⟨b1, b2⟩ := zsd F
  rw [gdR_step h2, gdU_step h2]
  refine gdU_eq fu _ _ _ (skA_rsk hp h0 hQ h4) h5 (fun r hr k hk => ?_) (fun r hr h k hk => ?_)
  · show updR Q _ (A F) r k = addK p (Q' r) (T F r) 1 k
    rw [h3]
    unfold sng
    by_cases e : r = (skD F).toNat - g.toNat
    · subst e
      rw [updR_same, updR_same, addK_one]
      show A F k = (Q' _ k + A F k) % p
      rw [hz _ hr (by omega) k hk, Nat.zero_add, Nat.mod_eq_of_lt (h7.1 k hk)]
    rw [updR_other e, updR_other e, he r hr k hk]
    exact (addK_zero (hQ r hr).1 (fun _ _ => rfl) k hk).symm
  show addK p (Q' r) (T F r) 1 k = 0
  rw [h3]
  unfold sng
  rw [updR_other (by omega)]
  rw [addK_zero (hQ r hr).1 (fun _ _ => rfl) k hk]
  exact hz r hr (by omega) k hk
theorem gdR_deg {F : Nat → Nat → Nat} (hF : rsk p m F) (h : g ≤ skD F) : skD (gdR p T N g 8 (fun _ _ => 0) F).1 = skD F - g := by
 obtain ⟨h3, h7, h8, h4, h5, h6⟩ := H.2 F hF h
 have hg := H.1
 obtain ⟨b1, b2⟩ := zsd F
 have hz : rsk p m (fun _ _ => 0) := fun _ _ => zero_rsd hp h0
 have hn : ((skD F).toNat - g.toNat : Nat) < 8 := by omega
 have key : skD (gdR p T N g 8 (fun _ _ => 0) F).1 = (((skD F).toNat - g.toNat : Nat) : Int) := by
  refine skD_at hn (deg_congr0 (x := A F) (fun k hk => ?_) h8) (fun i h1 h2 k hk => ?_)
  · rw [gdR_step (by omega), gdR_keep hp h0 H 7 _ _ _ (skA_rsk hp h0 hz h4) h5 hn (by omega) k hk]
    show A F k = addK p _ (T F _) 1 k
    rw [h3]
    unfold sng
    rw [updR_same, addK_one]
    show A F k = (0 + A F k) % p
    rw [Nat.zero_add, Nat.mod_eq_of_lt (h7.1 k hk)]
  rw [gdR_keep hp h0 H 8 _ _ i hz hF h2 (by omega) k hk]
 rw [key]; omega
end
section
variable {p : Nat} {m : Nat → Nat} {d : Nat} (hp : p = 2 ∨ p = 3 ∨ p = 5 ∨ p = 7) (lm : ∀ k, k < 64 → m k < p) (hmon : mon m d) (hi : irr p (cut m) d) (h9 : d ≤ 9)
include hp lm hmon hi h9
theorem GD_right {G : Nat → Nat → Nat} (hG : rsk p m G) (hG0 : 0 ≤ skD G) : GD p m (fun F => dvA p m d F G) (fun F => dvT p m d F G) (fun F => dvF p m d F G) (skD G) := ⟨hG0, fun F hF h => by
 obtain ⟨a, b, c, e, f, g⟩ := dv_step hp lm hmon hi h9 hF hG hG0 h
 exact ⟨rfl, a, b, e, f, g⟩⟩
end
def dq (p : Nat) (m : Nat → Nat) (d : Nat) (F G : Nat → Nat → Nat) : (Nat → Nat → Nat) × (Nat → Nat → Nat) := gdR p (fun F => dvT p m d F G) (fun F => dvF p m d F G) (skD G) 8 (fun _ _ => 0) F
def eu (p : Nat) (m : Nat → Nat) (d : Nat) : Nat → (Nat → Nat → Nat) → (Nat → Nat → Nat) → (Nat → Nat → Nat) → (Nat → Nat → Nat) → (Nat → Nat → Nat) × (Nat → Nat → Nat)
 | 0, A, B, U, V => (A, V)
 | n + 1, A, B, U, V => if skD B < 0 then (A, V) else eu p m d n B (dq p m d A B).2 V (skA p U (tmP p m d (dq p m d A B).1 V) (-1))
def eD (p : Nat) (m : Nat → Nat) (d : Nat) : Nat → (Nat → Nat → Nat) → (Nat → Nat → Nat) → (Nat → Nat → Nat)
 | 0, A, B => A
 | n + 1, A, B => if skD B < 0 then A else eD p m d n B (dq p m d A B).2
theorem eu_stop {p : Nat} {m : Nat → Nat} {d n : Nat} {A B U V : Nat → Nat → Nat} (h : skD B < 0) : eu p m d n A B U V = (A, V) := by
 cases n with
 | zero => rfl
 | succ n => rw [eu, if_pos h]
theorem eu_step {p : Nat} {m : Nat → Nat} {d n : Nat} {A B U V : Nat → Nat → Nat} (h : ¬ skD B < 0) : eu p m d (n + 1) A B U V = eu p m d n B (dq p m d A B).2 V (skA p U (tmP p m d (dq p m d A B).1 V) (-1)) := by rw [eu, if_neg h]
theorem eD_stop {p : Nat} {m : Nat → Nat} {d n : Nat} {A B : Nat → Nat → Nat} (h : skD B < 0) : eD p m d n A B = A := by
 cases n with
 | zero => rfl
 | succ n => rw [eD, if_pos h]
theorem eD_step {p : Nat} {m : Nat → Nat} {d n : Nat} {A B : Nat → Nat → Nat} (h : ¬ skD B < 0) : eD p m d (n + 1) A B = eD p m d n B (dq p m d A B).2 := by rw [eD, if_neg h]
theorem eu_eD (p : Nat) (m : Nat → Nat) (d : Nat) : ∀ n A B U V, (eu p m d n A B U V).1 = eD p m d n A B
 | 0, A, B, U, V => rfl
 | n + 1, A, B, U, V => by
  by_cases h : skD B < 0
  · rw [eu_stop h, eD_stop h]
  rw [eu_step h, eD_step h]; exact eu_eD p m d n _ _ _ _
def EI (p : Nat) (m : Nat → Nat) (A B U V : Nat → Nat → Nat) (g : Int) : Prop :=
 rsk p m A ∧ rsk p m B ∧ rsk p m U ∧ rsk p m V ∧ ((skD V < 0 ∧ skD U = 0 ∧ skD B = g) ∨ (0 ≤ skD V ∧ skD V + skD A = g ∧ skD U < skD V ∧ skD B < skD A))
section
variable {p : Nat} {m : Nat → Nat} {d : Nat} (hp : p = 2 ∨ p = 3 ∨ p = 5 ∨ p = 7) (lm : ∀ k, k < 64 → m k < p) (hmon : mon m d) (hi : irr p (cut m) d) (h9 : d ≤ 9)
include hp lm hmon hi h9
theorem dq_ok {F G : Nat → Nat → Nat} (hF : rsk p m F) (hG : rsk p m G) (hG0 : 0 ≤ skD G) :
 rsk p m (dq p m d F G).1 ∧ rsk p m (dq p m d F G).2 ∧ skD (dq p m d F G).2 < skD G ∧ (skD G ≤ skD F → skD (dq p m d F G).1 = skD F - skD G) ∧ (skD F < skD G → skD (dq p m d F G).1 = -1) := by
 have h0 : 0 ≤ deg m := by rw [hmon.1]; omega
 have H := GD_right hp lm hmon hi h9 hG hG0
 obtain ⟨b1, b2⟩ := zsd F
 have hz : rsk p m (fun _ _ => 0) := fun _ _ => zero_rsd (by omega) h0
 obtain ⟨c1, c2, c3⟩ := gdR_ok (by omega) h0 H 8 _ F hz hF (by omega)
 refine ⟨c1, c2, c3, fun h => gdR_deg (by omega) h0 H hF h, fun h => ?_⟩
 unfold dq
 rw [gdR_stop h]; exact skD_z0
theorem EI_start {F G : Nat → Nat → Nat} (hF : rsk p m F) (hG : rsk p m G) : EI p m F G (sng 0 oneP) (fun _ _ => 0) (skD G) :=
 ⟨hF, hG, sng_rsk hp lm hmon hi h9 0 (one_rsd hp lm hmon hi h9), fun _ _ => zero_rsd (by omega) (by rw [hmon.1]; omega), .inl ⟨by rw [skD_z0]; omega, sng_deg (by omega) (by rw [deg_one]; omega), rfl⟩⟩
theorem EI_fit {A B U V : Nat → Nat → Nat} {g : Int} (H : EI p m A B U V g) (hB : 0 ≤ skD B) (hg : g ≤ 7) : skD (dq p m d A B).1 + skD V ≤ 7 := by
 obtain ⟨hA, hB', hU, hV, h⟩ := H
 obtain ⟨c1, c2, c3, c4, c5⟩ := dq_ok hp lm hmon hi h9 hA hB' hB
 obtain ⟨b1, b2⟩ := zsd (dq p m d A B).1
 rcases h with ⟨h1, h2, h3⟩ | ⟨h1, h2, h3, h4⟩
 · omega
 have := c4 (by omega); omega
theorem skA_top {F G : Nat → Nat → Nat} {n : Nat} (hG : rsk p m G) (hn : skD G = (n : Int)) (h : skD F < (n : Int)) : skD (skA p F G (-1)) = (n : Int) := by
 have _u0 := lm
 have _u1 := hmon
 have _u2 := hi
 have _u3 := h9
 obtain ⟨n8, gn⟩ := skN_row hn
 refine skD_at n8 ?_ (fun i h1 h2 k hk => ?_)
 · obtain ⟨k, hk, h2⟩ := deg_nonneg gn
   have hf := eqN_iff.1 (skN_spec F 8 n n8 (by unfold skD at h; exact h)) k hk
   have hl := (hG n n8).1 k hk
   by_cases h3 : 0 ≤ deg (skA p F G (-1) n)
   · exact h3
   exfalso
   have h4 := dgz_out (x := skA p F G (-1) n) (by omega) k hk
   have h5 : skA p F G (-1) n k = (F n k + p - G n k) % p := addK_neg (by omega) (hG n n8).1 hk
   rw [h5, hf, Nat.zero_add, Nat.mod_eq_of_lt (by omega)] at h4
   omega
 have e1 := eqN_iff.1 (skN_spec F 8 i h2 (by unfold skD at h; omega)) k hk
 have e2 := eqN_iff.1 (skN_spec G 8 i h2 (by unfold skD at hn; omega)) k hk
 have h5 : skA p F G (-1) i k = (F i k + p - G i k) % p := addK_neg (by omega) (hG i h2).1 hk
 rw [h5, e1, e2, Nat.zero_add, Nat.sub_zero, Nat.mod_self]
theorem EI_step {A B U V : Nat → Nat → Nat} {g : Int} (H : EI p m A B U V g) (hB : 0 ≤ skD B) (hg : g ≤ 7) : EI p m B (dq p m d A B).2 V (skA p U (tmP p m d (dq p m d A B).1 V) (-1)) g := by
 have hfit := EI_fit hp lm hmon hi h9 H hB hg
 obtain ⟨hA, hB', hU, hV, h⟩ := H
 have h0 : 0 ≤ deg m := by rw [hmon.1]; omega
 obtain ⟨c1, c2, c3, c4, c5⟩ := dq_ok hp lm hmon hi h9 hA hB' hB
 have hP : rsk p m (tmP p m d (dq p m d A B).1 V) := fun i _ => tmP_rsd hp lm h0 i
 refine ⟨hB', c2, hV, skA_rsk (by omega) h0 hU hP, .inr ?_⟩
 rcases h with ⟨h1, h2, h3⟩ | ⟨h1, h2, h3, h4⟩
 · have e : skD (skA p U (tmP p m d (dq p m d A B).1 V) (-1)) = 0 := by
    rw [← h2]
    refine skD_congr (fun i hi8 k hk => ?_)
    have h5 : skA p U (tmP p m d (dq p m d A B).1 V) (-1) i k = (U i k + p - tmP p m d (dq p m d A B).1 V i k) % p := addK_neg (by omega) (hP i hi8).1 hk
    rw [h5, tmP_zero (.inr h1), Nat.sub_zero, Nat.add_mod_right, Nat.mod_eq_of_lt ((hU i hi8).1 k hk)]
   rw [e]
   exact ⟨Int.le_refl _, by omega, h1, c3⟩
 have hq := c4 (by omega)
 obtain ⟨a, ha⟩ : ∃ a : Nat, skD (dq p m d A B).1 = (a : Int) := ⟨(skD (dq p m d A B).1).toNat, by omega⟩
 obtain ⟨v, hv⟩ : ∃ v : Nat, skD V = (v : Int) := ⟨(skD V).toNat, by omega⟩
 have hd := tmP_deg hp lm hmon hi h9 c1 hV ha hv (by omega)
 have e := skA_top hp lm hmon hi h9 (F := U) hP hd (by omega)
 rw [e]
 exact ⟨by omega, by omega, by omega, c3⟩
theorem eu_end {g : Int} (hg : g ≤ 7) (hg0 : 0 ≤ g) : ∀ (n : Nat) A B U V, EI p m A B U V g → skD B < (n : Int) → rsk p m (eu p m d n A B U V).1 ∧ rsk p m (eu p m d n A B U V).2 ∧ 0 ≤ skD (eu p m d n A B U V).2 ∧ skD (eu p m d n A B U V).2 + skD (eu p m d n A B U V).1 = g
 | 0, A, B, U, V, ⟨hA, hB, hU, hV, h⟩, hn => ⟨hA, hV, by
  rcases h with ⟨h1, h2, h3⟩ | ⟨h1, h2, h3, h4⟩
  · omega
  exact ⟨h1, h2⟩⟩
 | n + 1, A, B, U, V, H, hn => by
  by_cases hb : skD B < 0
  · rw [eu_stop hb]
    obtain ⟨hA, hB, hU, hV, h⟩ := H
    refine ⟨hA, hV, ?_⟩
    rcases h with ⟨h1, h2, h3⟩ | ⟨h1, h2, h3, h4⟩
    · omega
    exact ⟨h1, h2⟩
  rw [eu_step hb]
  have := (dq_ok hp lm hmon hi h9 H.1 H.2.1 (by omega)).2.2.1
  exact eu_end hg hg0 n _ _ _ _ (EI_step hp lm hmon hi h9 H (by omega) hg) (by omega)
end
attribute [irreducible] gdR gdU dq eu eD
end Go.Proofs.Ytoncepgcfifgbab
namespace Go.Proofs.Ytoncepgcfifgbab
open Go Go.RowKit
attribute [local irreducible] deg addK strP frI frN mmP pmP resP bzU bzD bzW skA skD
theorem leading_any (F : Nat → Nat → Nat) (n : Nat) (hn : skD F = (n : Int)) (w : World) :
 Calls Try.prog 33 #[.agg (zb 512 (fl 64 F))] w fun e w' => e = .returned (.agg (zb 64 (F n))) ∧ Below w.heap.size w w' := by
 have n8 : n < 8 := (skN_row hn).1
 have HN := Lib.hid hn
 clear hn
 go_enter Try.func33, Try.ntmps33
 go_upto_region 1 with (fail)
 rw [← z64]
 obtain ⟨W1, hwo⟩ : ∃ v : World, v = ((w.alloc (.cells (zb 512 (fl 64 F)) 26)).alloc (.cells (zb 64 (fun _ => 0)) 24)) := ⟨_, rfl⟩
 have B0 : Blk W1 (w.heap.size) 512 26 (fl 64 F) := by subst hwo; have := ((Blk.new w 512 26 (fl 64 F)).alloc (.cells (zb 64 (fun _ => 0)) 24)); simpa using this
 have B1 : Blk W1 (w.heap.size + 1) 64 24 (fun _ => 0) := by subst hwo; have := (Blk.new (w.alloc (.cells (zb 512 (fl 64 F)) 26)) 64 24 (fun _ => 0)); simpa using this
 have hb : Below w.heap.size w W1 := by subst hwo; exact (((Below.refl _ _).alloc (Nat.le_refl _) _).alloc (by simp) _)
 rw [← hwo]
 clear hwo
 have lt_B0 := B0.lt
 have lt_B1 := B1.lt
 go_wp2_with (first | rw [← z64] | (refine zla (.tmp 1) B0 Try.underlying26 Try.size26 ?_) | (go_at_call 14; refine (skDegree_any F _).mono ?_; rintro e W2 ⟨rfl, hW2⟩; replace B0 := B0.zw hW2; replace B1 := B1.zw hW2; replace hb := (hb).trans (hW2.mono (hb).size); rw [HN.out]) | (refine wpList_load_mid rfl 24 (.tmp 5) rfl _ (n * 64) rfl (bl 64 (F n)) _ ((B0).sk (by omega)) Try.underlying24 rfl (by rw [zl]; exact Try.size24) ?_) | (refine zsr (.tmp 2) (.tmp 6) (F n) B1 Try.size24 ?_; try simp only [Act.put]))
 obtain ⟨W3, hwo, hzQ⟩ : ∃ v : World, v = (W2.setRow (w.heap.size + 1) (zb 64 (F n))) ∧ Blk v (w.heap.size) 512 26 (fl 64 F) ∧ Blk v (w.heap.size + 1) 64 24 (F n) ∧ Below w.heap.size w v := ⟨_, rfl, (B0.rowOther (by omega)), (B1.row (F n)), (zr hb (by omega) _)⟩
 rw [← hwo]
 clear hwo B0 B1 hb
 obtain ⟨B0, B1, hb⟩ := hzQ
 try simp only [Act.put, pA, pB, pC]
 refine bodyPost_ret (zrb rfl _ _ _ 64 24 5 _ rfl B1 Try.underlying24 Try.size24) rfl ⟨rfl, hb⟩
theorem quotient_any (p : Nat) (m x y : Nat → Nat) (w : World) (hpr : p = 2 ∨ p = 3 ∨ p = 5 ∨ p = 7) (lm : ∀ k, k < 64 → m k < p) (h0 : 0 ≤ deg m) (lx : ∀ k, k < 64 → x k < p) (ly : ∀ k, k < 64 → y k < p) :
 Calls Try.prog 32 #[.agg (fdC (p : Int) m).toArray, .agg (zb 64 x), .agg (zb 64 y)] w fun e w' => e = .returned (.agg (zb 64 (mmP p x (bzU p y m) m))) ∧ Below w.heap.size w w' := by
 have HB := Lib.hid (fun W => bezout_any p y m W hpr ly lm (.inr h0))
 have HP := Lib.hid (fun W => kproduct_any p m x (bzU p y m) W hpr lm h0 lx (fun k _ => bzU_lt (by omega) k))
 clear h0 lx ly lm
 go_enter Try.func32, Try.ntmps32
 go_upto_region 1 with (fail)
 rw [← z64]
 obtain ⟨W1, hwo⟩ : ∃ v : World, v = ((((w.alloc (.cells (fdC (p : Int) m).toArray 38)).alloc (.cells (zb 64 (x)) 24)).alloc (.cells (zb 64 (y)) 24)).alloc (.cells (zb 64 (fun _ => 0)) 24)) := ⟨_, rfl⟩
 have B0 : Row W1 (w.heap.size) 38 (fdC (p : Int) m).toArray := by subst hwo; have := ((((Row.new w 38 (fdC (p : Int) m).toArray).alloc (.cells (zb 64 (x)) 24)).alloc (.cells (zb 64 (y)) 24)).alloc (.cells (zb 64 (fun _ => 0)) 24)); simpa using this
 have B1 : Blk W1 (w.heap.size + 1) 64 24 (x) := by subst hwo; have := (((Blk.new (w.alloc (.cells (fdC (p : Int) m).toArray 38)) 64 24 (x)).alloc (.cells (zb 64 (y)) 24)).alloc (.cells (zb 64 (fun _ => 0)) 24)); simpa using this
 have B2 : Blk W1 (w.heap.size + 1 + 1) 64 24 (y) := by subst hwo; have := ((Blk.new ((w.alloc (.cells (fdC (p : Int) m).toArray 38)).alloc (.cells (zb 64 (x)) 24)) 64 24 (y)).alloc (.cells (zb 64 (fun _ => 0)) 24)); simpa using this
 have B3 : Blk W1 (w.heap.size + 1 + 1 + 1) 64 24 (fun _ => 0) := by subst hwo; have := (Blk.new (((w.alloc (.cells (fdC (p : Int) m).toArray 38)).alloc (.cells (zb 64 (x)) 24)).alloc (.cells (zb 64 (y)) 24)) 64 24 (fun _ => 0)); simpa using this
 have hb : Below w.heap.size w W1 := by subst hwo; exact (((((Below.refl _ _).alloc (Nat.le_refl _) _).alloc (by simp) _).alloc (by simp; omega) _).alloc (by simp; omega) _)
 rw [← hwo]
 clear hwo
 have cc := B0.cell (i := 0) (v := .int .i64 (p : Int)) (fdC_at (p : Int) m)
 have lt_B0 := B0.lt
 have lt_B1 := B1.lt
 have lt_B2 := B2.lt
 have lt_B3 := B3.lt
 go_upto_region 2 with (first | rw [← z64] | (refine zla (.tmp 5) B2 Try.underlying24 Try.size24 ?_) | (refine wpList_load_mid rfl 24 (.tmp 14) rfl _ 1 rfl (bl 64 m) _ (B0.fd) Try.underlying24 rfl (by rw [zl]; exact Try.size24) ?_) | (go_at_call 54; refine (HB.out _).mono ?_; rintro e W2 ⟨rfl, hW2⟩; replace B0 := B0.zw hW2; replace B1 := B1.zw hW2; replace B2 := B2.zw hW2; replace B3 := B3.zw hW2; replace hb := (hb).trans (hW2.mono (hb).size)) | (refine wpList_store_blk rfl 24 (.tmp 7) (.tmp 17) rfl _ 64 (bzD p y m) rfl rfl 24 _ ((((Blk.new W2 64 24 (fun _ => 0)).alloc (.cells (zb 64 (fun _ => 0)) 24)).alloc (.cells (zb 64 (fun _ => 0)) 24))) Try.size24 ?_; try simp only [Act.put]) | (refine wpList_store_blk rfl 24 (.tmp 8) (.tmp 18) rfl _ 64 (bzU p y m) rfl rfl 24 _ ((((show Blk ((W2.alloc (.cells (zb 64 (fun _ => 0)) 24)).alloc (.cells (zb 64 (fun _ => 0)) 24)) (W2.heap.size + 1) 64 24 (fun _ => 0) by have := Blk.new (W2.alloc (.cells (zb 64 (fun _ => 0)) 24)) 64 24 (fun _ => 0); simpa using this).alloc (.cells (zb 64 (fun _ => 0)) 24)).rowOther (by omega))) Try.size24 ?_; try simp only [Act.put]) | (refine wpList_store_blk rfl 24 (.tmp 9) (.tmp 19) rfl _ 64 (bzW p y m) rfl rfl 24 _ ((((show Blk (((W2.alloc (.cells (zb 64 (fun _ => 0)) 24)).alloc (.cells (zb 64 (fun _ => 0)) 24)).alloc (.cells (zb 64 (fun _ => 0)) 24)) (W2.heap.size + 1 + 1) 64 24 (fun _ => 0) by have := Blk.new ((W2.alloc (.cells (zb 64 (fun _ => 0)) 24)).alloc (.cells (zb 64 (fun _ => 0)) 24)) 64 24 (fun _ => 0); simpa using this).rowOther (by omega)).rowOther (by omega))) Try.size24 ?_; try simp only [Act.put]))
 have lt_B0 := B0.lt
 have lt_B1 := B1.lt
 have lt_B2 := B2.lt
 have lt_B3 := B3.lt
 have lhb := hb.size
 obtain ⟨W3, hwo, hzQ⟩ : ∃ v : World, v = ((((((W2.alloc (.cells (zb 64 (fun _ => 0)) 24)).alloc (.cells (zb 64 (fun _ => 0)) 24)).alloc (.cells (zb 64 (fun _ => 0)) 24)).setRow (W2.heap.size) (zb 64 (bzD p y m))).setRow (W2.heap.size + 1) (zb 64 (bzU p y m))).setRow (W2.heap.size + 1 + 1) (zb 64 (bzW p y m))) ∧ Row v (w.heap.size) 38 (fdC (p : Int) m).toArray ∧ Blk v (w.heap.size + 1) 64 24 (x) ∧ Blk v (w.heap.size + 1 + 1) 64 24 (y) ∧ Blk v (w.heap.size + 1 + 1 + 1) 64 24 (fun _ => 0) ∧ Blk v (W2.heap.size) 64 24 (bzD p y m) ∧ Blk v (W2.heap.size + 1) 64 24 (bzU p y m) ∧ Blk v (W2.heap.size + 1 + 1) 64 24 (bzW p y m) ∧ Below w.heap.size w v := ⟨_, rfl, ((((((B0.alloc (.cells (zb 64 (fun _ => 0)) 24)).alloc (.cells (zb 64 (fun _ => 0)) 24)).alloc (.cells (zb 64 (fun _ => 0)) 24)).rowOther (by omega)).rowOther (by omega)).rowOther (by omega)), ((((((B1.alloc (.cells (zb 64 (fun _ => 0)) 24)).alloc (.cells (zb 64 (fun _ => 0)) 24)).alloc (.cells (zb 64 (fun _ => 0)) 24)).rowOther (by omega)).rowOther (by omega)).rowOther (by omega)), ((((((B2.alloc (.cells (zb 64 (fun _ => 0)) 24)).alloc (.cells (zb 64 (fun _ => 0)) 24)).alloc (.cells (zb 64 (fun _ => 0)) 24)).rowOther (by omega)).rowOther (by omega)).rowOther (by omega)), ((((((B3.alloc (.cells (zb 64 (fun _ => 0)) 24)).alloc (.cells (zb 64 (fun _ => 0)) 24)).alloc (.cells (zb 64 (fun _ => 0)) 24)).rowOther (by omega)).rowOther (by omega)).rowOther (by omega)), ((((((Blk.new W2 64 24 (fun _ => 0)).alloc (.cells (zb 64 (fun _ => 0)) 24)).alloc (.cells (zb 64 (fun _ => 0)) 24)).row (bzD p y m)).rowOther (by omega)).rowOther (by omega)), (((((show Blk ((W2.alloc (.cells (zb 64 (fun _ => 0)) 24)).alloc (.cells (zb 64 (fun _ => 0)) 24)) (W2.heap.size + 1) 64 24 (fun _ => 0) by have := Blk.new (W2.alloc (.cells (zb 64 (fun _ => 0)) 24)) 64 24 (fun _ => 0); simpa using this).alloc (.cells (zb 64 (fun _ => 0)) 24)).rowOther (by omega)).row (bzU p y m)).rowOther (by omega)), ((((show Blk (((W2.alloc (.cells (zb 64 (fun _ => 0)) 24)).alloc (.cells (zb 64 (fun _ => 0)) 24)).alloc (.cells (zb 64 (fun _ => 0)) 24)) (W2.heap.size + 1 + 1) 64 24 (fun _ => 0) by have := Blk.new ((W2.alloc (.cells (zb 64 (fun _ => 0)) 24)).alloc (.cells (zb 64 (fun _ => 0)) 24)) 64 24 (fun _ => 0); simpa using this).rowOther (by omega)).rowOther (by omega)).row (bzW p y m)), (zr (zr (zr (((hb.alloc (by have := hb.size; simp; omega) (.cells (zb 64 (fun _ => 0)) 24)).alloc (by have := hb.size; simp; omega) (.cells (zb 64 (fun _ => 0)) 24)).alloc (by have := hb.size; simp; omega) (.cells (zb 64 (fun _ => 0)) 24)) (by omega) _) (by omega) _) (by omega) _)⟩
 rw [← hwo]
 clear hwo B0 B1 B2 B3 hb
 obtain ⟨B0, B1, B2, B3, B4, B5, B6, hb⟩ := hzQ
 obtain ⟨N1, hNN⟩ : ∃ n : Nat, n = W2.heap.size := ⟨_, rfl⟩
 rw [← hNN] at lt_B0 lt_B1 lt_B2 lt_B3 lhb B4 B5 B6 ⊢
 clear hNN
 have zN1_0 := lt_B0
 have zN1_1 := lt_B1
 have zN1_2 := lt_B2
 have zN1_3 := lt_B3
 have zN1 := lhb
 clear lt_B0 lt_B1 lt_B2 lt_B3 lhb
 try simp only [Act.put, pA, pB, pC]
 have lt_B0 := B0.lt
 have lt_B1 := B1.lt
 have lt_B2 := B2.lt
 have lt_B3 := B3.lt
 have lt_B4 := B4.lt
 have lt_B5 := B5.lt
 have lt_B6 := B6.lt
 go_wp2_with (first | rw [← z64] | (refine zlr rfl 38 (.tmp 3) rfl _ rfl 38 (fdC (p : Int) m).toArray B0 _ Try.underlying38 rfl 65 Try.size38 (by simp [fdC_len]) ?_) | (refine zla (.tmp 4) B1 Try.underlying24 Try.size24 ?_) | (refine zla (.tmp 8) B5 Try.underlying24 Try.size24 ?_) | (go_at_call 55; refine (HP.out _).mono ?_; rintro e W4 ⟨rfl, hW4⟩; replace B0 := B0.zw hW4; replace B1 := B1.zw hW4; replace B2 := B2.zw hW4; replace B3 := B3.zw hW4; replace B4 := B4.zw hW4; replace B5 := B5.zw hW4; replace B6 := B6.zw hW4; replace hb := (hb).trans (hW4.mono (hb).size)) | (refine zsr (.tmp 6) (.tmp 23) (mmP p x (bzU p y m) m) B3 Try.size24 ?_; try simp only [Act.put]))
 obtain ⟨W5, hwo, hzQ⟩ : ∃ v : World, v = (W4.setRow (w.heap.size + 1 + 1 + 1) (zb 64 (mmP p x (bzU p y m) m))) ∧ Row v (w.heap.size) 38 (fdC (p : Int) m).toArray ∧ Blk v (w.heap.size + 1) 64 24 (x) ∧ Blk v (w.heap.size + 1 + 1) 64 24 (y) ∧ Blk v (w.heap.size + 1 + 1 + 1) 64 24 (mmP p x (bzU p y m) m) ∧ Blk v (N1) 64 24 (bzD p y m) ∧ Blk v (N1 + 1) 64 24 (bzU p y m) ∧ Blk v (N1 + 1 + 1) 64 24 (bzW p y m) ∧ Below w.heap.size w v := ⟨_, rfl, (B0.rowOther (by omega)), (B1.rowOther (by omega)), (B2.rowOther (by omega)), (B3.row (mmP p x (bzU p y m) m)), (B4.rowOther (by omega)), (B5.rowOther (by omega)), (B6.rowOther (by omega)), (zr hb (by omega) _)⟩
 rw [← hwo]
 clear hwo B0 B1 B2 B3 B4 B5 B6 hb
 obtain ⟨B0, B1, B2, B3, B4, B5, B6, hb⟩ := hzQ
 try simp only [Act.put, pA, pB, pC]
 refine bodyPost_ret (zrb rfl _ _ _ 64 24 5 _ rfl B3 Try.underlying24 Try.size24) rfl ⟨rfl, hb⟩
theorem skMinus_any (p : Nat) (m : Nat → Nat) (F G : Nat → Nat → Nat) (w : World) (p2 : 2 ≤ p) (p7 : p ≤ 7) (hF : ∀ i, i < 8 → ∀ j, j < 64 → F i j < p) (hG : ∀ i, i < 8 → ∀ j, j < 64 → G i j < p) :
 Calls Try.prog 30 #[.agg (zb 512 (fl 64 F)), .agg (fdC (p : Int) m).toArray, .agg (zb 512 (fl 64 G))] w fun e w' => e = .returned (.agg (zb 512 (fl 64 (skA p F G (-1))))) ∧ Below w.heap.size w w' := by
 have HZ := Lib.hid (skJ_z p F G (-1))
 have HA := Lib.hid (skJ_at p F G (-1))
 have HS := Lib.hid (skJ_s p F G (-1))
 have HV := Lib.hid (skJ_end p F G (-1))
 have HAD := Lib.hid (show ∀ j, j < 8 → ∀ W, Calls Try.prog 52 #[.int .i64 (p : Int), .agg (zb 64 (F j)), .agg (zb 64 (G j))] W fun e w' => e = .returned (.agg (zb 64 (addK p (F j) (G j) (-1)))) ∧ Below W.heap.size W w' from fun j hj W => by
  have h := difference_any p _ _ W p2 p7 (hF j hj) (hG j hj)
  rw [zbc (f := fun i => (F j i + p - G j i) % p) (g := addK p (F j) (G j) (-1)) (fun k hk => (addK_neg (by omega) (hG j hj) hk).symm)] at h
  exact h)
 clear hF hG
 go_enter Try.func30, Try.ntmps30
 go_upto_region 1 with (fail)
 rw [← zero512]
 obtain ⟨W1, hwo⟩ : ∃ v : World, v = ((((w.alloc (.cells (zb 512 (fl 64 F)) 26)).alloc (.cells (fdC (p : Int) m).toArray 38)).alloc (.cells (zb 512 (fl 64 G)) 26)).alloc (.cells (zb 512 (fl 64 (fun _ _ => 0))) 26)) := ⟨_, rfl⟩
 have B0 : Blk W1 (w.heap.size) 512 26 (fl 64 F) := by subst hwo; have := ((((Blk.new w 512 26 (fl 64 F)).alloc (.cells (fdC (p : Int) m).toArray 38)).alloc (.cells (zb 512 (fl 64 G)) 26)).alloc (.cells (zb 512 (fl 64 (fun _ _ => 0))) 26)); simpa using this
 have B1 : Row W1 (w.heap.size + 1) 38 (fdC (p : Int) m).toArray := by subst hwo; have := (((Row.new (w.alloc (.cells (zb 512 (fl 64 F)) 26)) 38 (fdC (p : Int) m).toArray).alloc (.cells (zb 512 (fl 64 G)) 26)).alloc (.cells (zb 512 (fl 64 (fun _ _ => 0))) 26)); simpa using this
 have B2 : Blk W1 (w.heap.size + 1 + 1) 512 26 (fl 64 G) := by subst hwo; have := ((Blk.new ((w.alloc (.cells (zb 512 (fl 64 F)) 26)).alloc (.cells (fdC (p : Int) m).toArray 38)) 512 26 (fl 64 G)).alloc (.cells (zb 512 (fl 64 (fun _ _ => 0))) 26)); simpa using this
 have B3 : Blk W1 (w.heap.size + 1 + 1 + 1) 512 26 (fl 64 (fun _ _ => 0)) := by subst hwo; have := (Blk.new (((w.alloc (.cells (zb 512 (fl 64 F)) 26)).alloc (.cells (fdC (p : Int) m).toArray 38)).alloc (.cells (zb 512 (fl 64 G)) 26)) 512 26 (fl 64 (fun _ _ => 0))); simpa using this
 have hb : Below w.heap.size w W1 := by subst hwo; exact (((((Below.refl _ _).alloc (Nat.le_refl _) _).alloc (by simp) _).alloc (by simp; omega) _).alloc (by simp; omega) _)
 rw [← hwo]
 clear hwo
 go_wp2_with fail
 go_loopw [8] (fun c wr => ∃ j : Nat, c = .int .i64 (j : Int) ∧ j ≤ 8 ∧ Below w.heap.size w wr ∧ Blk wr (w.heap.size) 512 26 (fl 64 (skJ p F G (-1) j)) ∧ Blk wr (w.heap.size + 1 + 1) 512 26 (fl 64 G) ∧ Blk wr (w.heap.size + 1 + 1 + 1) 512 26 (fl 64 (fun _ _ => 0)) ∧ Row wr (w.heap.size + 1) 38 (fdC (p : Int) m).toArray) (fun c _ => 8 - (intOf c).toNat)
 case atStart => exact ⟨0, rfl, by omega, hb, by rw [HZ.out]; exact B0, B2, B3, B1⟩
 case round =>
  clear hb B0 B2 B3 B1
  obtain ⟨j, rfl, hj8, hb, B0, B2, B3, B1⟩ := hrel
  by_cases hj : j < 8
  · have hjI : (j : Int) < 8 := by omega
    have HJ := Lib.hid (HA.out j)
    have HAJ := Lib.hid (show ∀ W, Calls Try.prog 52 #[.int .i64 (p : Int), .agg (zb 64 (skJ p F G (-1) j j)), .agg (zb 64 (G j))] W fun e w' => e = .returned (.agg (zb 64 (addK p (F j) (G j) (-1)))) ∧ Below W.heap.size W w' from fun W => by rw [HJ.out]; exact HAD.out j hj W)
    go_upto_region 4 with (fail)
    have lt_B0 : (w.heap.size) < wr.heap.size := B0.lt
    have lt_B1 : (w.heap.size + 1) < wr.heap.size := B1.lt
    have lt_B2 : (w.heap.size + 1 + 1) < wr.heap.size := B2.lt
    have lt_B3 : (w.heap.size + 1 + 1 + 1) < wr.heap.size := B3.lt
    have hbase : w.heap.size ≤ wr.heap.size := hb.size
    refine zq Try.mixed (by kernel_rfl) (by kernel_rfl) (fun v => by (simp only [frL, Act.put, pA, pB, pC, Nat.reduceAdd, Nat.zero_add]; exact rfl))
     (fun L v W2 => Below w.heap.size w W2 ∧ Kx [w.heap.size] wr W2 ∧ (∃ g, Blk W2 (w.heap.size) 512 26 (g)) ∧ (L 11 = false → Blk W2 (w.heap.size) 512 26 (fl 64 (skJ p F G (-1) j))) ∧ (L 11 = true → Blk W2 (w.heap.size) 512 26 (fl 64 (updR (skJ p F G (-1) j) j (addK p (F j) (G j) (-1))))) ∧ VF L v [some (.int .i64 (j : Int)), some (.pointer (some ⟨w.heap.size + 1, 0, none⟩)), some (.int .i64 (p : Int)), some (.int .i64 (j : Int)), some (.pointer (some ⟨w.heap.size, j * 64, none⟩)), some (.agg (zb 64 ((skJ p F G (-1) j) j))), some (.int .i64 (j : Int)), some (.pointer (some ⟨w.heap.size + 1 + 1, j * 64, none⟩)), some (.agg (zb 64 (G j))), some (.agg (zb 64 (addK p (F j) (G j) (-1)))), some (.pointer (some ⟨w.heap.size, j * 64, none⟩)), none]) ?_ ?_ ?_
    · intro v hv0
      exact ⟨hb.drew, Kx.start _ _, ⟨_, B0.drew⟩, (fun _ => B0.drew), (fun h => by cases h), VF.start⟩
    · refine (.cons rfl ?_ (.cons rfl ?_ (.cons rfl ?_ (.cons rfl ?_ (.cons rfl ?_ (.cons rfl ?_ (.cons rfl ?_ (.cons rfl ?_ (.cons rfl ?_ (.cons rfl ?_ (.cons rfl ?_ (.cons rfl ?_ (.nil _)))))))))))))
      all_goals intro L v W2 hd hn ⟨hB, hX, x0, q0, n0, V⟩ K hK
      · go_wp2_with fail
        exact hK _ (.int .i64 (j : Int)) _ (by simp only [Act.put, pA, pB, pC ]) ⟨hB, hX, x0, q0, n0, V.step 0 rfl⟩
      · go_wp2_with fail
        exact hK _ (.pointer (some ⟨w.heap.size + 1, 0, none⟩)) _ (by simp only [Act.put, pA, pB, pC ]) ⟨hB, hX, x0, q0, n0, V.step 1 rfl⟩
      · have e1 := V.at (zdq hd 1 rfl) rfl
        have cc := (B1.kx hX (by simp <;> omega)).cell (i := 0) (v := .int .i64 (p : Int)) (fdC_at (p : Int) m)
        go_wp2_with fail
        exact hK _ (.int .i64 (p : Int)) _ (by simp only [Act.put, pA, pB, pC, e1]) ⟨hB, hX, x0, q0, n0, V.step 2 rfl⟩
      · go_wp2_with fail
        exact hK _ (.int .i64 (j : Int)) _ (by simp only [Act.put, pA, pB, pC ]) ⟨hB, hX, x0, q0, n0, V.step 3 rfl⟩
      · have e3 := V.at (zdq hd 3 rfl) rfl
        go_wp2_with fail
        exact hK _ (.pointer (some ⟨w.heap.size, j * 64, none⟩)) _ (by simp only [Act.put, pA, pB, pC, e3]) ⟨hB, hX, x0, q0, n0, V.step 4 rfl⟩
      · have e4 := V.at (zdq hd 4 rfl) rfl
        have s0 := q0 (by
         cases hL : L 11 with
         | false => rfl
         | true => exact absurd rfl (hn 11 _ rfl hL ⟨5, .phase⟩ (by simp) rfl))
        refine wp_load_mid 24 _ rfl _ (j * 64) e4 _ _ ((s0).sk (by omega)) Try.underlying24 rfl (by rw [zl]; exact Try.size24) ?_
        exact hK _ _ _ rfl ⟨hB, hX, x0, q0, n0, V.step 5 rfl⟩
      · go_wp2_with fail
        exact hK _ (.int .i64 (j : Int)) _ (by simp only [Act.put, pA, pB, pC ]) ⟨hB, hX, x0, q0, n0, V.step 6 rfl⟩
      · have e6 := V.at (zdq hd 6 rfl) rfl
        go_wp2_with fail
        exact hK _ (.pointer (some ⟨w.heap.size + 1 + 1, j * 64, none⟩)) _ (by simp only [Act.put, pA, pB, pC, e6]) ⟨hB, hX, x0, q0, n0, V.step 7 rfl⟩
      · have e7 := V.at (zdq hd 7 rfl) rfl
        refine wp_load_mid 24 _ rfl _ (j * 64) e7 _ _ (((B2.kx hX (by simp <;> omega))).sk (by omega)) Try.underlying24 rfl (by rw [zl]; exact Try.size24) ?_
        exact hK _ _ _ rfl ⟨hB, hX, x0, q0, n0, V.step 8 rfl⟩
      · have e2 := V.at (zdq hd 2 rfl) rfl
        have e5 := V.at (zdq hd 5 rfl) rfl
        have e8 := V.at (zdq hd 8 rfl) rfl
        go_wp2_with (go_at_call 52; refine (HAJ.out _).mono ?_; rintro e wy ⟨rfl, hy⟩)
        exact hK _ (.agg (zb 64 (addK p (F j) (G j) (-1)))) _ (by simp only [Act.put, pA, pB, pC, e2, e5, e8]) ⟨hB.trans (hy.mono hB.size), hX.below hy, (let ⟨g, h⟩ := x0; ⟨g, h.zw hy⟩), (fun h => (q0 h).below hy (q0 h).lt), (fun h => (n0 h).below hy (n0 h).lt), V.step 9 rfl⟩
      · have e0 := V.at (zdq hd 0 rfl) rfl
        go_wp2_with fail
        exact hK _ (.pointer (some ⟨w.heap.size, j * 64, none⟩)) _ (by simp only [Act.put, pA, pB, pC, e0]) ⟨hB, hX, x0, q0, n0, V.step 10 rfl⟩
      have e10 := V.at (zdq hd 10 rfl) rfl
      have e9 := V.at (zdq hd 9 rfl) rfl
      obtain ⟨gz, hk, hg⟩ : ∃ gz, Blk W2 (w.heap.size) 512 26 (fl 64 gz) ∧ updR gz (j) (addK p (F j) (G j) (-1)) = updR (skJ p F G (-1) j) (j) (addK p (F j) (G j) (-1)) := by
       cases hL : L 11 with
       | false => exact ⟨_, q0 hL, rfl⟩
       | true => exact ⟨_, n0 hL, updR_twice _ _ _⟩
      refine wp_store_sk 24 _ _ rfl _ (j) (addK p (F j) (G j) (-1)) e10 e9 26 gz hk (by omega) Try.size24 ?_
      rw [hg]
      exact hK _ undef _ rfl ⟨zr hB (by omega) _, hX.row (by simp) _, ⟨_, hk.row _⟩, (fun h => absurd h (by simp [setL])), (fun _ => hk.row _), V.skip 11 rfl⟩
    intro L v W2 hL ⟨hB, hX, x0, q0, n0, V⟩
    have r0 := n0 (hL 11 (by decide))
    have e0 := V.at (hL 0 (by decide)) rfl
    have e1 := V.at (hL 1 (by decide)) rfl
    have e2 := V.at (hL 2 (by decide)) rfl
    have e3 := V.at (hL 3 (by decide)) rfl
    have e4 := V.at (hL 4 (by decide)) rfl
    have e5 := V.at (hL 5 (by decide)) rfl
    have e6 := V.at (hL 6 (by decide)) rfl
    have e7 := V.at (hL 7 (by decide)) rfl
    have e8 := V.at (hL 8 (by decide)) rfl
    have e9 := V.at (hL 9 (by decide)) rfl
    have e10 := V.at (hL 10 (by decide)) rfl
    clear hL x0 q0 n0 V
    replace B1 := B1.kx hX (by simp <;> omega)
    replace B2 := B2.kx hX (by simp <;> omega)
    replace B3 := B3.kx hX (by simp <;> omega)
    clear hX
    simp only [Exit.then, e0, e1, e2, e3, e4, e5, e6, e7, e8, e9, e10]
    clear e0 e1 e2 e3 e4 e5 e6 e7 e8 e9 e10
    replace B0 := r0
    clear r0
    replace hb := hB
    clear hB
    clear hbase lt_B0 lt_B1 lt_B2 lt_B3
    go_wp2_with fail
    go_roundw
    case rel => exact ⟨j + 1, by go_num, by omega, hb, by rw [← HS.out]; exact B0, B2, B3, B1⟩
    case measure => simp [intOf] <;> omega
  have hjI : ¬ (j : Int) < 8 := by omega
  obtain rfl : j = 8 := by omega
  go_upto_region 6 with (fail)
  go_wp2_with (first | rw [← z64] | rw [← zero512] | (refine zla (.tmp 3) B0 Try.underlying26 Try.size26 ?_) | (refine zsr (.tmp 6) (.tmp 23) (fl 64 (skJ p F G (-1) 8)) B3 Try.size26 ?_; try simp only [Act.put]))
  obtain ⟨W2, hwo, hzQ⟩ : ∃ v : World, v = (wr.setRow (w.heap.size + 1 + 1 + 1) (zb 512 (fl 64 (skJ p F G (-1) 8)))) ∧ Blk v (w.heap.size) 512 26 (fl 64 (skJ p F G (-1) 8)) ∧ Row v (w.heap.size + 1) 38 (fdC (p : Int) m).toArray ∧ Blk v (w.heap.size + 1 + 1) 512 26 (fl 64 G) ∧ Blk v (w.heap.size + 1 + 1 + 1) 512 26 (fl 64 (skJ p F G (-1) 8)) ∧ Below w.heap.size w v := ⟨_, rfl, (B0.rowOther (by omega)), (B1.rowOther (by omega)), (B2.rowOther (by omega)), (B3.row (fl 64 (skJ p F G (-1) 8))), (zr hb (by omega) _)⟩
  rw [← hwo]
  clear hwo B0 B1 B2 B3 hb
  obtain ⟨B0, B1, B2, B3, hb⟩ := hzQ
  try simp only [Act.put, pA, pB, pC]
  refine bodyPost_ret (results_any rfl _ _ _ 512 _ _ rfl B3 _ Try.underlying26 rfl Try.size26) rfl ⟨by rw [HV.out], hb⟩
theorem rightStep_any (p : Nat) (m : Nat → Nat) (F G : Nat → Nat → Nat) (w : World) (hpr : p = 2 ∨ p = 3 ∨ p = 5 ∨ p = 7) (lm : ∀ k, k < 64 → m k < p) (d : Nat) (hmon : mon m d) (hi : irr p (cut m) d) (hd9 : d ≤ 9) (hF : rsk p m F) (hG : rsk p m G) (hG0 : 0 ≤ skD G) (hFG : skD G ≤ skD F) :
 Calls Try.prog 29 #[.agg (zb 512 (fl 64 F)), .agg (fdC (p : Int) m).toArray, .agg (zb 512 (fl 64 G))] w fun e w' => e = .returned (.tuple #[.agg (zb 512 (fl 64 (dvT p m d F G))), .agg (zb 512 (fl 64 (tmP p m d (dvT p m d F G) G)))]) ∧ Below w.heap.size w w' := by
 have p0 : 0 < p := by omega
 have hd := hmon.1
 have hd1 := hi.1
 have h0 : 0 ≤ deg m := by omega
 have h9 : deg m ≤ 9 := by omega
 obtain ⟨s1, s2, s3, s4, s5, s6⟩ := dv_step hpr lm hmon hi hd9 hF hG hG0 hFG
 obtain ⟨n, hn⟩ : ∃ n : Nat, skD F = (n : Int) := ⟨(skD F).toNat, by omega⟩
 obtain ⟨k, hk⟩ : ∃ k : Nat, skD G = (k : Int) := ⟨(skD G).toNat, by omega⟩
 obtain ⟨n8, fn⟩ := skN_row hn
 obtain ⟨k8, gk⟩ := skN_row hk
 obtain ⟨q, hq⟩ : ∃ q : Nat, n - k = q := ⟨_, rfl⟩
 have hqI : (n : Int) - (k : Int) = (q : Int) := by omega
 have q8 : q < 8 := by omega
 have HT := Lib.hid (show updR (fun _ _ => 0) q (mmP p (F n) (bzU p (frN p m (G k) (q % d)) m) m) = dvT p m d F G by unfold dvT dvA sng; rw [hn, hk, ← hq]; rfl)
 have HLF := Lib.hid (fun W => leading_any F n hn W)
 have HLG := Lib.hid (fun W => leading_any G k hk W)
 have HDF := Lib.hid (show ∀ W, Calls Try.prog 14 #[.agg (zb 512 (fl 64 F))] W fun e w' => e = .returned (.int .i64 (n : Int)) ∧ Below W.heap.size W w' from fun W => by have := skDegree_any F W; rwa [hn] at this)
 have HDG := Lib.hid (show ∀ W, Calls Try.prog 14 #[.agg (zb 512 (fl 64 G))] W fun e w' => e = .returned (.int .i64 (k : Int)) ∧ Below W.heap.size W w' from fun W => by have := skDegree_any G W; rwa [hk] at this)
 have HFB := Lib.hid (fun W => kfrob_any p m (G k) q W hpr lm d hd hd1 hd9 (by omega) (hG k k8))
 have HQ := Lib.hid (fun W => quotient_any p m (F n) (frN p m (G k) (q % d)) W hpr lm h0 (hF n n8).1 (frN_ok hpr lm h0 h9 (hG k k8) (q % d)).1.1)
 have HTM := Lib.hid (show ∀ W, Calls Try.prog 15 #[.agg (zb 512 (fl 64 (updR (fun _ _ => 0) q (mmP p (F n) (bzU p (frN p m (G k) (q % d)) m) m)))), .agg (fdC (p : Int) m).toArray, .agg (zb 512 (fl 64 G))] W fun e w' => e = .returned (.agg (zb 512 (fl 64 (tmP p m d (dvT p m d F G) G)))) ∧ Below W.heap.size W w' from fun W => by
  rw [HT.out]; exact skTimes_any p m _ G W hpr lm d hd hd1 hd9 (fun i hi8 => (s4 i hi8).1) hG (by omega))
 clear s1 s2 s3 s4 s5 s6 hF hG hG0 hFG hn hk hq fn gk hd hd1 h0 h9 hmon hi
 go_enter Try.func29, Try.ntmps29
 go_upto_region 1 with (fail)
 rw [← zero512]
 obtain ⟨W1, hwo⟩ : ∃ v : World, v = (((((w.alloc (.cells (zb 512 (fl 64 F)) 26)).alloc (.cells (fdC (p : Int) m).toArray 38)).alloc (.cells (zb 512 (fl 64 G)) 26)).alloc (.cells (zb 512 (fl 64 (fun _ _ => 0))) 26)).alloc (.cells (zb 512 (fl 64 (fun _ _ => 0))) 26)) := ⟨_, rfl⟩
 have B0 : Blk W1 (w.heap.size) 512 26 (fl 64 F) := by subst hwo; have := (((((Blk.new w 512 26 (fl 64 F)).alloc (.cells (fdC (p : Int) m).toArray 38)).alloc (.cells (zb 512 (fl 64 G)) 26)).alloc (.cells (zb 512 (fl 64 (fun _ _ => 0))) 26)).alloc (.cells (zb 512 (fl 64 (fun _ _ => 0))) 26)); simpa using this
 have B1 : Row W1 (w.heap.size + 1) 38 (fdC (p : Int) m).toArray := by subst hwo; have := ((((Row.new (w.alloc (.cells (zb 512 (fl 64 F)) 26)) 38 (fdC (p : Int) m).toArray).alloc (.cells (zb 512 (fl 64 G)) 26)).alloc (.cells (zb 512 (fl 64 (fun _ _ => 0))) 26)).alloc (.cells (zb 512 (fl 64 (fun _ _ => 0))) 26)); simpa using this
 have B2 : Blk W1 (w.heap.size + 1 + 1) 512 26 (fl 64 G) := by subst hwo; have := (((Blk.new ((w.alloc (.cells (zb 512 (fl 64 F)) 26)).alloc (.cells (fdC (p : Int) m).toArray 38)) 512 26 (fl 64 G)).alloc (.cells (zb 512 (fl 64 (fun _ _ => 0))) 26)).alloc (.cells (zb 512 (fl 64 (fun _ _ => 0))) 26)); simpa using this
 have B3 : Blk W1 (w.heap.size + 1 + 1 + 1) 512 26 (fl 64 (fun _ _ => 0)) := by subst hwo; have := ((Blk.new (((w.alloc (.cells (zb 512 (fl 64 F)) 26)).alloc (.cells (fdC (p : Int) m).toArray 38)).alloc (.cells (zb 512 (fl 64 G)) 26)) 512 26 (fl 64 (fun _ _ => 0))).alloc (.cells (zb 512 (fl 64 (fun _ _ => 0))) 26)); simpa using this
 have B4 : Blk W1 (w.heap.size + 1 + 1 + 1 + 1) 512 26 (fl 64 (fun _ _ => 0)) := by subst hwo; have := (Blk.new ((((w.alloc (.cells (zb 512 (fl 64 F)) 26)).alloc (.cells (fdC (p : Int) m).toArray 38)).alloc (.cells (zb 512 (fl 64 G)) 26)).alloc (.cells (zb 512 (fl 64 (fun _ _ => 0))) 26)) 512 26 (fl 64 (fun _ _ => 0))); simpa using this
 have hb : Below w.heap.size w W1 := by subst hwo; exact ((((((Below.refl _ _).alloc (Nat.le_refl _) _).alloc (by simp) _).alloc (by simp; omega) _).alloc (by simp; omega) _).alloc (by simp; omega) _)
 rw [← hwo]
 clear hwo
 go_upto_region 2 with (first | rw [← z64] | rw [← zero512])
 have lt_B0 := B0.lt
 have lt_B1 := B1.lt
 have lt_B2 := B2.lt
 have lt_B3 := B3.lt
 have lt_B4 := B4.lt
 have lhb := hb.size
 obtain ⟨W2, hwo, hzQ⟩ : ∃ v : World, v = (W1.alloc (.cells (zb 512 (fl 64 (fun _ _ => 0))) 26)) ∧ Blk v (w.heap.size) 512 26 (fl 64 F) ∧ Row v (w.heap.size + 1) 38 (fdC (p : Int) m).toArray ∧ Blk v (w.heap.size + 1 + 1) 512 26 (fl 64 G) ∧ Blk v (w.heap.size + 1 + 1 + 1) 512 26 (fl 64 (fun _ _ => 0)) ∧ Blk v (w.heap.size + 1 + 1 + 1 + 1) 512 26 (fl 64 (fun _ _ => 0)) ∧ Blk v (W1.heap.size) 512 26 (fl 64 (fun _ _ => 0)) ∧ Below w.heap.size w v := ⟨_, rfl, (B0.alloc (.cells (zb 512 (fl 64 (fun _ _ => 0))) 26)), (B1.alloc (.cells (zb 512 (fl 64 (fun _ _ => 0))) 26)), (B2.alloc (.cells (zb 512 (fl 64 (fun _ _ => 0))) 26)), (B3.alloc (.cells (zb 512 (fl 64 (fun _ _ => 0))) 26)), (B4.alloc (.cells (zb 512 (fl 64 (fun _ _ => 0))) 26)), (Blk.new W1 512 26 (fl 64 (fun _ _ => 0))), (hb.alloc (by have := hb.size; simp; omega) (.cells (zb 512 (fl 64 (fun _ _ => 0))) 26))⟩
 rw [← hwo]
 clear hwo B0 B1 B2 B3 B4 hb
 obtain ⟨B0, B1, B2, B3, B4, B5, hb⟩ := hzQ
 obtain ⟨N1, hNN⟩ : ∃ n : Nat, n = W1.heap.size := ⟨_, rfl⟩
 rw [← hNN] at lt_B0 lt_B1 lt_B2 lt_B3 lt_B4 lhb B5 ⊢
 clear hNN
 have zN1_0 := lt_B0
 have zN1_1 := lt_B1
 have zN1_2 := lt_B2
 have zN1_3 := lt_B3
 have zN1_4 := lt_B4
 have zN1 := lhb
 clear lt_B0 lt_B1 lt_B2 lt_B3 lt_B4 lhb
 try simp only [Act.put, pA, pB, pC]
 refine zq Try.mixed (by kernel_rfl) (by kernel_rfl) (fun v => by (simp only [frL, Act.put, pA, pB, pC, Nat.reduceAdd, Nat.zero_add]; exact rfl))
  (fun L v W3 => Below W2.heap.size W2 W3 ∧ VF L v [some (.agg (zb 512 (fl 64 F))), some (.int .i64 (n : Int)), some (.agg (zb 512 (fl 64 G))), some (.int .i64 (k : Int)), some (.int .i64 (q : Int)), some (.int .i64 (q : Int))]) ?_ ?_ ?_
 · intro v hv0
   exact ⟨(Below.refl _ W2).drew, VF.start⟩
 · refine (.cons rfl ?_ (.cons rfl ?_ (.cons rfl ?_ (.cons rfl ?_ (.cons rfl ?_ (.cons rfl ?_ (.nil _)))))))
   all_goals intro L v W3 hd hn ⟨hY, V⟩ K hK
   · refine zlc (B0.zw hY) Try.underlying26 Try.size26 ?_
     exact hK _ _ _ rfl ⟨hY, V.step 0 rfl⟩
   · have e0 := V.at (zdq hd 0 rfl) rfl
     go_wp2_with (go_at_call 14; refine (HDF.out _).mono ?_; rintro e wy ⟨rfl, hy⟩)
     exact hK _ (.int .i64 (n : Int)) _ (by simp only [Act.put, pA, pB, pC, e0]) ⟨hY.trans (hy.mono hY.size), V.step 1 rfl⟩
   · refine zlc (B2.zw hY) Try.underlying26 Try.size26 ?_
     exact hK _ _ _ rfl ⟨hY, V.step 2 rfl⟩
   · have e2 := V.at (zdq hd 2 rfl) rfl
     go_wp2_with (go_at_call 14; refine (HDG.out _).mono ?_; rintro e wy ⟨rfl, hy⟩)
     exact hK _ (.int .i64 (k : Int)) _ (by simp only [Act.put, pA, pB, pC, e2]) ⟨hY.trans (hy.mono hY.size), V.step 3 rfl⟩
   · have e1 := V.at (zdq hd 1 rfl) rfl
     have e3 := V.at (zdq hd 3 rfl) rfl
     go_wp2_with fail
     exact hK _ (.int .i64 (q : Int)) _ (by simp only [Act.put, pA, pB, pC, e1, e3]) ⟨hY, V.step 4 rfl⟩
   have e4 := V.at (zdq hd 4 rfl) rfl
   go_wp2_with fail
   exact hK _ (.int .i64 (q : Int)) _ (by simp only [Act.put, pA, pB, pC, e4]) ⟨hY, V.step 5 rfl⟩
 intro L v W3 hL ⟨hY, V⟩
 have e0 := V.at (hL 0 (by decide)) rfl
 have e1 := V.at (hL 1 (by decide)) rfl
 have e2 := V.at (hL 2 (by decide)) rfl
 have e3 := V.at (hL 3 (by decide)) rfl
 have e4 := V.at (hL 4 (by decide)) rfl
 have e5 := V.at (hL 5 (by decide)) rfl
 clear hL V
 replace B0 := B0.zw hY
 replace B1 := B1.zw hY
 replace B2 := B2.zw hY
 replace B3 := B3.zw hY
 replace B4 := B4.zw hY
 replace B5 := B5.zw hY
 replace hb := hb.trans (hY.mono hb.size)
 clear hY
 simp only [Exit.then, e0, e1, e2, e3, e4, e5]
 clear e0 e1 e2 e3 e4 e5
 go_upto_region 3 with (fail)
 have lt_B0 : (w.heap.size) < W3.heap.size := B0.lt
 have lt_B1 : (w.heap.size + 1) < W3.heap.size := B1.lt
 have lt_B2 : (w.heap.size + 1 + 1) < W3.heap.size := B2.lt
 have lt_B3 : (w.heap.size + 1 + 1 + 1) < W3.heap.size := B3.lt
 have lt_B4 : (w.heap.size + 1 + 1 + 1 + 1) < W3.heap.size := B4.lt
 have lt_B5 : (N1) < W3.heap.size := B5.lt
 have hbase : w.heap.size ≤ W3.heap.size := hb.size
 refine zq Try.mixed (by kernel_rfl) (by kernel_rfl) (fun v => by (simp only [frL, Act.put, pA, pB, pC, Nat.reduceAdd, Nat.zero_add]; exact rfl))
  (fun L v W4 => Below w.heap.size w W4 ∧ Kx [N1] W3 W4 ∧ (∃ g, Blk W4 (N1) 512 26 (g)) ∧ (L 11 = false → Blk W4 (N1) 512 26 (fl 64 (fun _ _ => 0))) ∧ (L 11 = true → Blk W4 (N1) 512 26 (fl 64 (updR (fun _ _ => 0) q (mmP p (F n) (bzU p (frN p m (G k) (q % d)) m) m)))) ∧ VF L v [some (.int .i64 (q : Int)), some (.agg (fdC (p : Int) m).toArray), some (.agg (zb 512 (fl 64 F))), some (.agg (zb 64 (F n))), some (.agg (fdC (p : Int) m).toArray), some (.agg (zb 512 (fl 64 G))), some (.agg (zb 64 (G k))), some (.int .i64 (q : Int)), some (.agg (zb 64 (frN p m (G k) (q % d)))), some (.agg (zb 64 (mmP p (F n) (bzU p (frN p m (G k) (q % d)) m) m))), some (.pointer (some ⟨N1, q * 64, none⟩)), none]) ?_ ?_ ?_
 · intro v hv0
   exact ⟨hb.drew, Kx.start _ _, ⟨_, B5.drew⟩, (fun _ => B5.drew), (fun h => by cases h), VF.start⟩
 · refine (.cons rfl ?_ (.cons rfl ?_ (.cons rfl ?_ (.cons rfl ?_ (.cons rfl ?_ (.cons rfl ?_ (.cons rfl ?_ (.cons rfl ?_ (.cons rfl ?_ (.cons rfl ?_ (.cons rfl ?_ (.cons rfl ?_ (.nil _)))))))))))))
   all_goals intro L v W4 hd hn ⟨hB, hX, x5, q5, n5, V⟩ K hK
   · go_wp2_with fail
     exact hK _ (.int .i64 (q : Int)) _ (by simp only [Act.put, pA, pB, pC ]) ⟨hB, hX, x5, q5, n5, V.step 0 rfl⟩
   · refine wp_load_rowv 38 _ rfl _ rfl 38 _ (B1.kx hX (by simp <;> omega)) _ Try.underlying38 rfl 65 Try.size38 (by simp [fdC_len]) ?_
     exact hK _ _ _ rfl ⟨hB, hX, x5, q5, n5, V.step 1 rfl⟩
   · refine wp_load_any 26 _ rfl _ rfl 512 26 _ (B0.kx hX (by simp <;> omega)) _ Try.underlying26 rfl Try.size26 ?_
     exact hK _ _ _ rfl ⟨hB, hX, x5, q5, n5, V.step 2 rfl⟩
   · have e2 := V.at (zdq hd 2 rfl) rfl
     go_wp2_with (go_at_call 33; refine (HLF.out _).mono ?_; rintro e wy ⟨rfl, hy⟩)
     exact hK _ (.agg (zb 64 (F n))) _ (by simp only [Act.put, pA, pB, pC, e2]) ⟨hB.trans (hy.mono hB.size), hX.below hy, (let ⟨g, h⟩ := x5; ⟨g, h.zw hy⟩), (fun h => (q5 h).below hy (q5 h).lt), (fun h => (n5 h).below hy (n5 h).lt), V.step 3 rfl⟩
   · refine wp_load_rowv 38 _ rfl _ rfl 38 _ (B1.kx hX (by simp <;> omega)) _ Try.underlying38 rfl 65 Try.size38 (by simp [fdC_len]) ?_
     exact hK _ _ _ rfl ⟨hB, hX, x5, q5, n5, V.step 4 rfl⟩
   · refine wp_load_any 26 _ rfl _ rfl 512 26 _ (B2.kx hX (by simp <;> omega)) _ Try.underlying26 rfl Try.size26 ?_
     exact hK _ _ _ rfl ⟨hB, hX, x5, q5, n5, V.step 5 rfl⟩
   · have e5 := V.at (zdq hd 5 rfl) rfl
     go_wp2_with (go_at_call 33; refine (HLG.out _).mono ?_; rintro e wy ⟨rfl, hy⟩)
     exact hK _ (.agg (zb 64 (G k))) _ (by simp only [Act.put, pA, pB, pC, e5]) ⟨hB.trans (hy.mono hB.size), hX.below hy, (let ⟨g, h⟩ := x5; ⟨g, h.zw hy⟩), (fun h => (q5 h).below hy (q5 h).lt), (fun h => (n5 h).below hy (n5 h).lt), V.step 6 rfl⟩
   · go_wp2_with fail
     exact hK _ (.int .i64 (q : Int)) _ (by simp only [Act.put, pA, pB, pC ]) ⟨hB, hX, x5, q5, n5, V.step 7 rfl⟩
   · have e4 := V.at (zdq hd 4 rfl) rfl
     have e6 := V.at (zdq hd 6 rfl) rfl
     have e7 := V.at (zdq hd 7 rfl) rfl
     go_wp2_with (go_at_call 51; refine (HFB.out _).mono ?_; rintro e wy ⟨rfl, hy⟩)
     exact hK _ (.agg (zb 64 (frN p m (G k) (q % d)))) _ (by simp only [Act.put, pA, pB, pC, e4, e6, e7]) ⟨hB.trans (hy.mono hB.size), hX.below hy, (let ⟨g, h⟩ := x5; ⟨g, h.zw hy⟩), (fun h => (q5 h).below hy (q5 h).lt), (fun h => (n5 h).below hy (n5 h).lt), V.step 8 rfl⟩
   · have e1 := V.at (zdq hd 1 rfl) rfl
     have e3 := V.at (zdq hd 3 rfl) rfl
     have e8 := V.at (zdq hd 8 rfl) rfl
     go_wp2_with (go_at_call 32; refine (HQ.out _).mono ?_; rintro e wy ⟨rfl, hy⟩)
     exact hK _ (.agg (zb 64 (mmP p (F n) (bzU p (frN p m (G k) (q % d)) m) m))) _ (by simp only [Act.put, pA, pB, pC, e1, e3, e8]) ⟨hB.trans (hy.mono hB.size), hX.below hy, (let ⟨g, h⟩ := x5; ⟨g, h.zw hy⟩), (fun h => (q5 h).below hy (q5 h).lt), (fun h => (n5 h).below hy (n5 h).lt), V.step 9 rfl⟩
   · have e0 := V.at (zdq hd 0 rfl) rfl
     go_wp2_with fail
     exact hK _ (.pointer (some ⟨N1, q * 64, none⟩)) _ (by simp only [Act.put, pA, pB, pC, e0]) ⟨hB, hX, x5, q5, n5, V.step 10 rfl⟩
   have e10 := V.at (zdq hd 10 rfl) rfl
   have e9 := V.at (zdq hd 9 rfl) rfl
   obtain ⟨gz, hk, hg⟩ : ∃ gz, Blk W4 (N1) 512 26 (fl 64 gz) ∧ updR gz (q) (mmP p (F n) (bzU p (frN p m (G k) (q % d)) m) m) = updR (fun _ _ => 0) (q) (mmP p (F n) (bzU p (frN p m (G k) (q % d)) m) m) := by
    cases hL : L 11 with
    | false => exact ⟨_, q5 hL, rfl⟩
    | true => exact ⟨_, n5 hL, updR_twice _ _ _⟩
   refine wp_store_sk 24 _ _ rfl _ (q) (mmP p (F n) (bzU p (frN p m (G k) (q % d)) m) m) e10 e9 26 gz hk (by omega) Try.size24 ?_
   rw [hg]
   exact hK _ undef _ rfl ⟨zr hB (by omega) _, hX.row (by simp) _, ⟨_, hk.row _⟩, (fun h => absurd h (by simp [setL])), (fun _ => hk.row _), V.skip 11 rfl⟩
 intro L v W4 hL ⟨hB, hX, x5, q5, n5, V⟩
 have r5 := n5 (hL 11 (by decide))
 have e0 := V.at (hL 0 (by decide)) rfl
 have e1 := V.at (hL 1 (by decide)) rfl
 have e2 := V.at (hL 2 (by decide)) rfl
 have e3 := V.at (hL 3 (by decide)) rfl
 have e4 := V.at (hL 4 (by decide)) rfl
 have e5 := V.at (hL 5 (by decide)) rfl
 have e6 := V.at (hL 6 (by decide)) rfl
 have e7 := V.at (hL 7 (by decide)) rfl
 have e8 := V.at (hL 8 (by decide)) rfl
 have e9 := V.at (hL 9 (by decide)) rfl
 have e10 := V.at (hL 10 (by decide)) rfl
 clear hL x5 q5 n5 V
 replace B0 := B0.kx hX (by simp <;> omega)
 replace B1 := B1.kx hX (by simp <;> omega)
 replace B2 := B2.kx hX (by simp <;> omega)
 replace B3 := B3.kx hX (by simp <;> omega)
 replace B4 := B4.kx hX (by simp <;> omega)
 clear hX
 simp only [Exit.then, e0, e1, e2, e3, e4, e5, e6, e7, e8, e9, e10]
 clear e0 e1 e2 e3 e4 e5 e6 e7 e8 e9 e10
 replace B5 := r5
 clear r5
 replace hb := hB
 clear hB
 clear hbase lt_B0 lt_B1 lt_B2 lt_B3 lt_B4 lt_B5
 go_upto_region 4 with (fail)
 have lt_B0 : (w.heap.size) < W4.heap.size := B0.lt
 have lt_B1 : (w.heap.size + 1) < W4.heap.size := B1.lt
 have lt_B2 : (w.heap.size + 1 + 1) < W4.heap.size := B2.lt
 have lt_B3 : (w.heap.size + 1 + 1 + 1) < W4.heap.size := B3.lt
 have lt_B4 : (w.heap.size + 1 + 1 + 1 + 1) < W4.heap.size := B4.lt
 have lt_B5 : (N1) < W4.heap.size := B5.lt
 have hbase : w.heap.size ≤ W4.heap.size := hb.size
 refine zq Try.mixed (by kernel_rfl) (by kernel_rfl) (fun v => by (simp only [frL, Act.put, pA, pB, pC, Nat.reduceAdd, Nat.zero_add]; exact rfl))
  (fun L v W5 => Below w.heap.size w W5 ∧ Kx [w.heap.size + 1 + 1 + 1, w.heap.size + 1 + 1 + 1 + 1] W4 W5 ∧ (∃ g, Blk W5 (w.heap.size + 1 + 1 + 1) 512 26 (g)) ∧ (L 5 = false → Blk W5 (w.heap.size + 1 + 1 + 1) 512 26 (fl 64 (fun _ _ => 0))) ∧ (L 5 = true → Blk W5 (w.heap.size + 1 + 1 + 1) 512 26 (fl 64 (updR (fun _ _ => 0) q (mmP p (F n) (bzU p (frN p m (G k) (q % d)) m) m)))) ∧ (∃ g, Blk W5 (w.heap.size + 1 + 1 + 1 + 1) 512 26 (g)) ∧ (L 6 = false → Blk W5 (w.heap.size + 1 + 1 + 1 + 1) 512 26 (fl 64 (fun _ _ => 0))) ∧ (L 6 = true → Blk W5 (w.heap.size + 1 + 1 + 1 + 1) 512 26 (fl 64 (tmP p m d (dvT p m d F G) G))) ∧ VF L v [some (.agg (zb 512 (fl 64 (updR (fun _ _ => 0) q (mmP p (F n) (bzU p (frN p m (G k) (q % d)) m) m))))), some (.agg (zb 512 (fl 64 (updR (fun _ _ => 0) q (mmP p (F n) (bzU p (frN p m (G k) (q % d)) m) m))))), some (.agg (fdC (p : Int) m).toArray), some (.agg (zb 512 (fl 64 G))), some (.agg (zb 512 (fl 64 (tmP p m d (dvT p m d F G) G)))), none, none]) ?_ ?_ ?_
 · intro v hv0
   exact ⟨hb.drew, Kx.start _ _, ⟨_, B3.drew⟩, (fun _ => B3.drew), (fun h => by cases h), ⟨_, B4.drew⟩, (fun _ => B4.drew), (fun h => by cases h), VF.start⟩
 · refine (.cons rfl ?_ (.cons rfl ?_ (.cons rfl ?_ (.cons rfl ?_ (.cons rfl ?_ (.cons rfl ?_ (.cons rfl ?_ (.nil _))))))))
   all_goals intro L v W5 hd hn ⟨hB, hX, x3, q3, n3, x4, q4, n4, V⟩ K hK
   · refine wp_load_any 26 _ rfl _ rfl 512 26 _ (B5.kx hX (by simp <;> omega)) _ Try.underlying26 rfl Try.size26 ?_
     exact hK _ _ _ rfl ⟨hB, hX, x3, q3, n3, x4, q4, n4, V.step 0 rfl⟩
   · refine wp_load_any 26 _ rfl _ rfl 512 26 _ (B5.kx hX (by simp <;> omega)) _ Try.underlying26 rfl Try.size26 ?_
     exact hK _ _ _ rfl ⟨hB, hX, x3, q3, n3, x4, q4, n4, V.step 1 rfl⟩
   · refine wp_load_rowv 38 _ rfl _ rfl 38 _ (B1.kx hX (by simp <;> omega)) _ Try.underlying38 rfl 65 Try.size38 (by simp [fdC_len]) ?_
     exact hK _ _ _ rfl ⟨hB, hX, x3, q3, n3, x4, q4, n4, V.step 2 rfl⟩
   · refine wp_load_any 26 _ rfl _ rfl 512 26 _ (B2.kx hX (by simp <;> omega)) _ Try.underlying26 rfl Try.size26 ?_
     exact hK _ _ _ rfl ⟨hB, hX, x3, q3, n3, x4, q4, n4, V.step 3 rfl⟩
   · have e1 := V.at (zdq hd 1 rfl) rfl
     have e2 := V.at (zdq hd 2 rfl) rfl
     have e3 := V.at (zdq hd 3 rfl) rfl
     go_wp2_with (go_at_call 15; refine (HTM.out _).mono ?_; rintro e wy ⟨rfl, hy⟩)
     exact hK _ (.agg (zb 512 (fl 64 (tmP p m d (dvT p m d F G) G)))) _ (by simp only [Act.put, pA, pB, pC, e1, e2, e3]) ⟨hB.trans (hy.mono hB.size), hX.below hy, (let ⟨g, h⟩ := x3; ⟨g, h.zw hy⟩), (fun h => (q3 h).below hy (q3 h).lt), (fun h => (n3 h).below hy (n3 h).lt), (let ⟨g, h⟩ := x4; ⟨g, h.zw hy⟩), (fun h => (q4 h).below hy (q4 h).lt), (fun h => (n4 h).below hy (n4 h).lt), V.step 4 rfl⟩
   · have e0 := V.at (zdq hd 0 rfl) rfl
     obtain ⟨gz, hk⟩ := x3
     refine zsb 26 _ _ rfl _ 512 (fl 64 (updR (fun _ _ => 0) q (mmP p (F n) (bzU p (frN p m (G k) (q % d)) m) m))) rfl e0 26 gz hk Try.size26 ?_
     exact hK _ undef _ rfl ⟨zr hB (by omega) _, hX.row (by simp) _, ⟨_, hk.row _⟩, (fun h => absurd h (by simp [setL])), (fun _ => hk.row _), (let ⟨g, h⟩ := x4; ⟨g, (h).rowOther (by omega)⟩), (fun h => (q4 h).rowOther (by omega)), (fun h => (n4 h).rowOther (by omega)), V.skip 5 rfl⟩
   have e4 := V.at (zdq hd 4 rfl) rfl
   obtain ⟨gz, hk⟩ := x4
   refine zsb 26 _ _ rfl _ 512 (fl 64 (tmP p m d (dvT p m d F G) G)) rfl e4 26 gz hk Try.size26 ?_
   exact hK _ undef _ rfl ⟨zr hB (by omega) _, hX.row (by simp) _, (let ⟨g, h⟩ := x3; ⟨g, (h).rowOther (by omega)⟩), (fun h => (q3 h).rowOther (by omega)), (fun h => (n3 h).rowOther (by omega)), ⟨_, hk.row _⟩, (fun h => absurd h (by simp [setL])), (fun _ => hk.row _), V.skip 6 rfl⟩
 intro L v W5 hL ⟨hB, hX, x3, q3, n3, x4, q4, n4, V⟩
 have r3 := n3 (hL 5 (by decide))
 have r4 := n4 (hL 6 (by decide))
 have e0 := V.at (hL 0 (by decide)) rfl
 have e1 := V.at (hL 1 (by decide)) rfl
 have e2 := V.at (hL 2 (by decide)) rfl
 have e3 := V.at (hL 3 (by decide)) rfl
 have e4 := V.at (hL 4 (by decide)) rfl
 clear hL x3 q3 n3 x4 q4 n4 V
 replace B0 := B0.kx hX (by simp <;> omega)
 replace B1 := B1.kx hX (by simp <;> omega)
 replace B2 := B2.kx hX (by simp <;> omega)
 replace B5 := B5.kx hX (by simp <;> omega)
 clear hX
 simp only [Exit.then, e0, e1, e2, e3, e4]
 clear e0 e1 e2 e3 e4
 replace B3 := r3
 clear r3
 replace B4 := r4
 clear r4
 replace hb := hB
 clear hB
 clear hbase lt_B0 lt_B1 lt_B2 lt_B3 lt_B4 lt_B5
 go_wp2_with fail
 refine bodyPost_ret (results_any2 rfl _ _ _ 512 _ _ _ 512 _ _ rfl B3 _ Try.underlying26 rfl Try.size26 rfl B4 _ Try.underlying26 rfl Try.size26) rfl ⟨by rw [HT.out], hb⟩
end Go.Proofs.Ytoncepgcfifgbab
namespace Go.Proofs.Ytoncepgcfifgbab
open Go Go.RowKit
attribute [local irreducible] deg addK strP frI frN mmP pmP resP bzU bzD bzW skA skD
theorem dq_def (p : Nat) (m : Nat → Nat) (d : Nat) (F G : Nat → Nat → Nat) : gdR p (fun F => dvT p m d F G) (fun F => dvF p m d F G) (skD G) 8 (fun _ _ => 0) F = dq p m d F G := by unfold dq; rfl
theorem skDivR_any (p : Nat) (m : Nat → Nat) (F0 G : Nat → Nat → Nat) (w : World) (hpr : p = 2 ∨ p = 3 ∨ p = 5 ∨ p = 7) (lm : ∀ k, k < 64 → m k < p) (d : Nat) (hmon : mon m d) (hi : irr p (cut m) d) (hd9 : d ≤ 9) (hF : rsk p m F0) (hG : rsk p m G) (hG0 : 0 ≤ skD G) :
 Calls Try.prog 28 #[.agg (zb 512 (fl 64 F0)), .agg (fdC (p : Int) m).toArray, .agg (zb 512 (fl 64 G)), .func (.func 29) #[] #[]] w fun e w' => e = .returned (.tuple #[.agg (zb 512 (fl 64 (dq p m d F0 G).1)), .agg (zb 512 (fl 64 (dq p m d F0 G).2))]) ∧ Below w.heap.size w w' := by
 have p0 : 0 < p := by omega
 have hd := hmon.1
 have hd1 := hi.1
 have h0 : 0 ≤ deg m := by omega
 have h9 : deg m ≤ 9 := by omega
 have p2 : 2 ≤ p := by omega
 have p7 : p ≤ 7 := by omega
 have HI0 := Lib.hid (show gdR p (fun F => dvT p m d F G) (fun F => dvF p m d F G) (skD G) 8 (fun _ _ => 0) F0 = dq p m d F0 G ∧ skD F0 < ((8 : Nat) : Int) ∧ rsk p m (fun _ _ => 0) ∧ rsk p m F0 from ⟨dq_def p m d F0 G, by have := zsd F0; omega, fun _ _ => zero_rsd p0 h0, hF⟩)
 have HS := Lib.hid (fun (F : Nat → Nat → Nat) (hF : rsk p m F) (h : skD G ≤ skD F) => dv_step hpr lm hmon hi hd9 hF hG hG0 h)
 have HST := Lib.hid (fun (F : Nat → Nat → Nat) (hF : rsk p m F) (h : skD G ≤ skD F) W => rightStep_any p m F G W hpr lm d hmon hi hd9 hF hG hG0 h)
 have HPL := Lib.hid (fun (Q T : Nat → Nat → Nat) (hQ : rsk p m Q) (hT : rsk p m T) W => skPlus_any p m Q T W p2 p7 (fun i hi8 => (hQ i hi8).1) (fun i hi8 => (hT i hi8).1))
 have HMI := Lib.hid (fun (Q T : Nat → Nat → Nat) (hQ : rsk p m Q) (hT : rsk p m T) W => skMinus_any p m Q T W p2 p7 (fun i hi8 => (hQ i hi8).1) (fun i hi8 => (hT i hi8).1))
 have HP := Lib.hid (fun (F G : Nat → Nat → Nat) => show rsk p m (tmP p m d F G) from fun i _ => tmP_rsd hpr lm h0 i)
 have HA := Lib.hid (fun (Q T : Nat → Nat → Nat) (hQ : rsk p m Q) (hT : rsk p m T) => show rsk p m (skA p Q T 1) from skA_rsk p0 h0 hQ hT)
 clear hF hG hd hd1 h0 h9 hmon hi lm hpr
 have HG0 := Lib.hid hG0
 clear hG0
 go_enter Try.func28, Try.ntmps28
 go_upto_region 1 with (fail)
 rw [← zero512]
 obtain ⟨W1, hwo⟩ : ∃ v : World, v = (((((w.alloc (.cells (zb 512 (fl 64 F0)) 26)).alloc (.cells (fdC (p : Int) m).toArray 38)).alloc (.cells (zb 512 (fl 64 G)) 26)).alloc (.cells (zb 512 (fl 64 (fun _ _ => 0))) 26)).alloc (.cells (zb 512 (fl 64 (fun _ _ => 0))) 26)) := ⟨_, rfl⟩
 have B0 : Blk W1 (w.heap.size) 512 26 (fl 64 F0) := by subst hwo; have := (((((Blk.new w 512 26 (fl 64 F0)).alloc (.cells (fdC (p : Int) m).toArray 38)).alloc (.cells (zb 512 (fl 64 G)) 26)).alloc (.cells (zb 512 (fl 64 (fun _ _ => 0))) 26)).alloc (.cells (zb 512 (fl 64 (fun _ _ => 0))) 26)); simpa using this
 have B1 : Row W1 (w.heap.size + 1) 38 (fdC (p : Int) m).toArray := by subst hwo; have := ((((Row.new (w.alloc (.cells (zb 512 (fl 64 F0)) 26)) 38 (fdC (p : Int) m).toArray).alloc (.cells (zb 512 (fl 64 G)) 26)).alloc (.cells (zb 512 (fl 64 (fun _ _ => 0))) 26)).alloc (.cells (zb 512 (fl 64 (fun _ _ => 0))) 26)); simpa using this
 have B2 : Blk W1 (w.heap.size + 1 + 1) 512 26 (fl 64 G) := by subst hwo; have := (((Blk.new ((w.alloc (.cells (zb 512 (fl 64 F0)) 26)).alloc (.cells (fdC (p : Int) m).toArray 38)) 512 26 (fl 64 G)).alloc (.cells (zb 512 (fl 64 (fun _ _ => 0))) 26)).alloc (.cells (zb 512 (fl 64 (fun _ _ => 0))) 26)); simpa using this
 have B3 : Blk W1 (w.heap.size + 1 + 1 + 1) 512 26 (fl 64 (fun _ _ => 0)) := by subst hwo; have := ((Blk.new (((w.alloc (.cells (zb 512 (fl 64 F0)) 26)).alloc (.cells (fdC (p : Int) m).toArray 38)).alloc (.cells (zb 512 (fl 64 G)) 26)) 512 26 (fl 64 (fun _ _ => 0))).alloc (.cells (zb 512 (fl 64 (fun _ _ => 0))) 26)); simpa using this
 have B4 : Blk W1 (w.heap.size + 1 + 1 + 1 + 1) 512 26 (fl 64 (fun _ _ => 0)) := by subst hwo; have := (Blk.new ((((w.alloc (.cells (zb 512 (fl 64 F0)) 26)).alloc (.cells (fdC (p : Int) m).toArray 38)).alloc (.cells (zb 512 (fl 64 G)) 26)).alloc (.cells (zb 512 (fl 64 (fun _ _ => 0))) 26)) 512 26 (fl 64 (fun _ _ => 0))); simpa using this
 have hb : Below w.heap.size w W1 := by subst hwo; exact ((((((Below.refl _ _).alloc (Nat.le_refl _) _).alloc (by simp) _).alloc (by simp; omega) _).alloc (by simp; omega) _).alloc (by simp; omega) _)
 rw [← hwo]
 clear hwo
 go_upto_region 2 with (first | rw [← z64] | rw [← zero512])
 have lt_B0 := B0.lt
 have lt_B1 := B1.lt
 have lt_B2 := B2.lt
 have lt_B3 := B3.lt
 have lt_B4 := B4.lt
 have lhb := hb.size
 obtain ⟨W2, hwo, hzQ⟩ : ∃ v : World, v = (W1.alloc (.cells (zb 512 (fl 64 (fun _ _ => 0))) 26)) ∧ Blk v (w.heap.size) 512 26 (fl 64 F0) ∧ Row v (w.heap.size + 1) 38 (fdC (p : Int) m).toArray ∧ Blk v (w.heap.size + 1 + 1) 512 26 (fl 64 G) ∧ Blk v (w.heap.size + 1 + 1 + 1) 512 26 (fl 64 (fun _ _ => 0)) ∧ Blk v (w.heap.size + 1 + 1 + 1 + 1) 512 26 (fl 64 (fun _ _ => 0)) ∧ Blk v (W1.heap.size) 512 26 (fl 64 (fun _ _ => 0)) ∧ Below w.heap.size w v := ⟨_, rfl, (B0.alloc (.cells (zb 512 (fl 64 (fun _ _ => 0))) 26)), (B1.alloc (.cells (zb 512 (fl 64 (fun _ _ => 0))) 26)), (B2.alloc (.cells (zb 512 (fl 64 (fun _ _ => 0))) 26)), (B3.alloc (.cells (zb 512 (fl 64 (fun _ _ => 0))) 26)), (B4.alloc (.cells (zb 512 (fl 64 (fun _ _ => 0))) 26)), (Blk.new W1 512 26 (fl 64 (fun _ _ => 0))), (hb.alloc (by have := hb.size; simp; omega) (.cells (zb 512 (fl 64 (fun _ _ => 0))) 26))⟩
 rw [← hwo]
 clear hwo B0 B1 B2 B3 B4 hb
 obtain ⟨B0, B1, B2, B3, B4, B5, hb⟩ := hzQ
 obtain ⟨N1, hNN⟩ : ∃ n : Nat, n = W1.heap.size := ⟨_, rfl⟩
 rw [← hNN] at lt_B0 lt_B1 lt_B2 lt_B3 lt_B4 lhb B5 ⊢
 clear hNN
 have zN1_0 := lt_B0
 have zN1_1 := lt_B1
 have zN1_2 := lt_B2
 have zN1_3 := lt_B3
 have zN1_4 := lt_B4
 have zN1 := lhb
 clear lt_B0 lt_B1 lt_B2 lt_B3 lt_B4 lhb
 try simp only [Act.put, pA, pB, pC]
 go_wp2_with fail
 go_loopw [13] (fun c wr => ∃ (fu : Nat) (Q F : Nat → Nat → Nat), Hid (gdR p (fun F => dvT p m d F G) (fun F => dvF p m d F G) (skD G) fu Q F = dq p m d F0 G ∧ skD F < (fu : Int) ∧ rsk p m Q ∧ rsk p m F) ∧ Below w.heap.size w wr ∧ Blk wr (w.heap.size) 512 26 (fl 64 F) ∧ Row wr (w.heap.size + 1) 38 (fdC (p : Int) m).toArray ∧ Blk wr (w.heap.size + 1 + 1) 512 26 (fl 64 G) ∧ Blk wr (w.heap.size + 1 + 1 + 1) 512 26 (fl 64 (fun _ _ => 0)) ∧ Blk wr (w.heap.size + 1 + 1 + 1 + 1) 512 26 (fl 64 (fun _ _ => 0)) ∧ Blk wr (N1) 512 26 (fl 64 Q)) (fun _ wr => skAt wr (w.heap.size))
 case atStart => exact ⟨8, _, _, HI0, hb, B0, B1, B2, B3, B4, B5⟩
 case round =>
  clear hb B0 B1 B2 B3 B4 B5 HI0
  obtain ⟨fu, Q, F, hI, hb, B0, B1, B2, B3, B4, B5⟩ := hrel
  have BF0 := Lib.hid B0
  by_cases hge : skD G ≤ skD F
  · obtain ⟨i1, i2, i3, i4⟩ := hI.out
    obtain ⟨s1, s2, s3, s4, s5, s6⟩ := HS.out F i4 hge
    obtain ⟨fu, rfl⟩ : ∃ x, fu = x + 1 := ⟨fu - 1, by have := HG0.out; omega⟩
    have hI2 := Lib.hid (show gdR p (fun F => dvT p m d F G) (fun F => dvF p m d F G) (skD G) fu (skA p Q (dvT p m d F G) 1) (dvF p m d F G) = dq p m d F0 G ∧ skD (dvF p m d F G) < (fu : Int) ∧ rsk p m (skA p Q (dvT p m d F G) 1) ∧ rsk p m (dvF p m d F G) from ⟨by rw [← i1, gdR_step (by omega)], by omega, HA.out _ _ i3 s4, s5⟩)
    have HK1 := Lib.hid (HST.out F i4 hge)
    have HK2 := Lib.hid (HPL.out Q (dvT p m d F G) i3 s4)
    have HK3 := Lib.hid (HMI.out F (tmP p m d (dvT p m d F G) G) i4 (HP.out _ _))
    have HM := Lib.hid s6
    clear i1 i2 i3 i4 s1 s2 s3 s4 s5 s6 hI
    go_upto_region 2 with (fail)
    refine zq Try.mixed (by kernel_rfl) (by kernel_rfl) (fun v => by (simp only [frL, Act.put, pA, pB, pC, Nat.reduceAdd, Nat.zero_add]; exact rfl))
     (fun L v W3 => Below wr.heap.size wr W3 ∧ VF L v [some (.agg (zb 512 (fl 64 F))), some (.int .i64 (skD F)), some (.agg (zb 512 (fl 64 G))), some (.int .i64 (skD G)), some (.bool true)]) ?_ ?_ ?_
    · intro v hv0
      exact ⟨(Below.refl _ wr).drew, VF.start⟩
    · refine (.cons rfl ?_ (.cons rfl ?_ (.cons rfl ?_ (.cons rfl ?_ (.cons rfl ?_ (.nil _))))))
      all_goals intro L v W3 hd hn ⟨hY, V⟩ K hK
      · refine zlc (B0.zw hY) Try.underlying26 Try.size26 ?_
        exact hK _ _ _ rfl ⟨hY, V.step 0 rfl⟩
      · have e0 := V.at (zdq hd 0 rfl) rfl
        go_wp2_with (go_at_call 14; refine (skDegree_any F _).mono ?_; rintro e wy ⟨rfl, hy⟩)
        exact hK _ (.int .i64 (skD F)) _ (by simp only [Act.put, pA, pB, pC, e0]) ⟨hY.trans (hy.mono hY.size), V.step 1 rfl⟩
      · refine zlc (B2.zw hY) Try.underlying26 Try.size26 ?_
        exact hK _ _ _ rfl ⟨hY, V.step 2 rfl⟩
      · have e2 := V.at (zdq hd 2 rfl) rfl
        go_wp2_with (go_at_call 14; refine (skDegree_any G _).mono ?_; rintro e wy ⟨rfl, hy⟩)
        exact hK _ (.int .i64 (skD G)) _ (by simp only [Act.put, pA, pB, pC, e2]) ⟨hY.trans (hy.mono hY.size), V.step 3 rfl⟩
      have e1 := V.at (zdq hd 1 rfl) rfl
      have e3 := V.at (zdq hd 3 rfl) rfl
      go_wp2_with fail
      try rw [show decide (skD G ≤ skD F) = true by simpa using hge]
      exact hK _ (.bool true) _ (by simp only [Act.put, pA, pB, pC, e1, e3]) ⟨hY, V.step 4 rfl⟩
    intro L v W3 hL ⟨hY, V⟩
    have e0 := V.at (hL 0 (by decide)) rfl
    have e1 := V.at (hL 1 (by decide)) rfl
    have e2 := V.at (hL 2 (by decide)) rfl
    have e3 := V.at (hL 3 (by decide)) rfl
    have e4 := V.at (hL 4 (by decide)) rfl
    clear hL V
    replace B0 := B0.zw hY
    replace B1 := B1.zw hY
    replace B2 := B2.zw hY
    replace B3 := B3.zw hY
    replace B4 := B4.zw hY
    replace B5 := B5.zw hY
    replace hb := hb.trans (hY.mono hb.size)
    clear hY
    simp only [Exit.then, e0, e1, e2, e3, e4]
    clear e0 e1 e2 e3 e4
    go_upto_region 3 with (fail)
    have lt_B0 := B0.lt
    have lt_B1 := B1.lt
    have lt_B2 := B2.lt
    have lt_B3 := B3.lt
    have lt_B4 := B4.lt
    have lt_B5 := B5.lt
    go_upto_region 4 with (first | rw [← z64] | rw [← zero512] | (refine zla (.tmp 4) B0 Try.underlying26 Try.size26 ?_) | (refine zlr rfl 38 (.tmp 5) rfl _ rfl 38 (fdC (p : Int) m).toArray B1 _ Try.underlying38 rfl 65 Try.size38 (by simp [fdC_len]) ?_) | (refine zla (.tmp 6) B2 Try.underlying26 Try.size26 ?_) | (go_at_call 29; refine (HK1.out _).mono ?_; rintro e W4 ⟨rfl, hW4⟩; replace B0 := B0.zw hW4; replace B1 := B1.zw hW4; replace B2 := B2.zw hW4; replace B3 := B3.zw hW4; replace B4 := B4.zw hW4; replace B5 := B5.zw hW4; replace hb := (hb).trans (hW4.mono (hb).size)) | (refine wpList_store_blk rfl 26 (.tmp 11) (.tmp 24) rfl _ 512 (fl 64 (dvT p m d F G)) rfl rfl 26 _ (((Blk.new W4 512 26 (fl 64 (fun _ _ => 0))).alloc (.cells (zb 512 (fl 64 (fun _ _ => 0))) 26))) Try.size26 ?_; try simp only [Act.put]) | (refine wpList_store_blk rfl 26 (.tmp 12) (.tmp 25) rfl _ 512 (fl 64 (tmP p m d (dvT p m d F G) G)) rfl rfl 26 _ (((show Blk ((W4.alloc (.cells (zb 512 (fl 64 (fun _ _ => 0))) 26)).alloc (.cells (zb 512 (fl 64 (fun _ _ => 0))) 26)) (W4.heap.size + 1) 512 26 (fl 64 (fun _ _ => 0)) by have := Blk.new (W4.alloc (.cells (zb 512 (fl 64 (fun _ _ => 0))) 26)) 512 26 (fl 64 (fun _ _ => 0)); simpa using this).rowOther (by omega))) Try.size26 ?_; try simp only [Act.put]))
    have lt_B0 := B0.lt
    have lt_B1 := B1.lt
    have lt_B2 := B2.lt
    have lt_B3 := B3.lt
    have lt_B4 := B4.lt
    have lt_B5 := B5.lt
    have lhb := hb.size
    obtain ⟨W5, hwo, hzQ⟩ : ∃ v : World, v = ((((W4.alloc (.cells (zb 512 (fl 64 (fun _ _ => 0))) 26)).alloc (.cells (zb 512 (fl 64 (fun _ _ => 0))) 26)).setRow (W4.heap.size) (zb 512 (fl 64 (dvT p m d F G)))).setRow (W4.heap.size + 1) (zb 512 (fl 64 (tmP p m d (dvT p m d F G) G)))) ∧ Blk v (w.heap.size) 512 26 (fl 64 F) ∧ Row v (w.heap.size + 1) 38 (fdC (p : Int) m).toArray ∧ Blk v (w.heap.size + 1 + 1) 512 26 (fl 64 G) ∧ Blk v (w.heap.size + 1 + 1 + 1) 512 26 (fl 64 (fun _ _ => 0)) ∧ Blk v (w.heap.size + 1 + 1 + 1 + 1) 512 26 (fl 64 (fun _ _ => 0)) ∧ Blk v (N1) 512 26 (fl 64 Q) ∧ Blk v (W4.heap.size) 512 26 (fl 64 (dvT p m d F G)) ∧ Blk v (W4.heap.size + 1) 512 26 (fl 64 (tmP p m d (dvT p m d F G) G)) ∧ Below w.heap.size w v := ⟨_, rfl, ((((B0.alloc (.cells (zb 512 (fl 64 (fun _ _ => 0))) 26)).alloc (.cells (zb 512 (fl 64 (fun _ _ => 0))) 26)).rowOther (by omega)).rowOther (by omega)), ((((B1.alloc (.cells (zb 512 (fl 64 (fun _ _ => 0))) 26)).alloc (.cells (zb 512 (fl 64 (fun _ _ => 0))) 26)).rowOther (by omega)).rowOther (by omega)), ((((B2.alloc (.cells (zb 512 (fl 64 (fun _ _ => 0))) 26)).alloc (.cells (zb 512 (fl 64 (fun _ _ => 0))) 26)).rowOther (by omega)).rowOther (by omega)), ((((B3.alloc (.cells (zb 512 (fl 64 (fun _ _ => 0))) 26)).alloc (.cells (zb 512 (fl 64 (fun _ _ => 0))) 26)).rowOther (by omega)).rowOther (by omega)), ((((B4.alloc (.cells (zb 512 (fl 64 (fun _ _ => 0))) 26)).alloc (.cells (zb 512 (fl 64 (fun _ _ => 0))) 26)).rowOther (by omega)).rowOther (by omega)), ((((B5.alloc (.cells (zb 512 (fl 64 (fun _ _ => 0))) 26)).alloc (.cells (zb 512 (fl 64 (fun _ _ => 0))) 26)).rowOther (by omega)).rowOther (by omega)), ((((Blk.new W4 512 26 (fl 64 (fun _ _ => 0))).alloc (.cells (zb 512 (fl 64 (fun _ _ => 0))) 26)).row (fl 64 (dvT p m d F G))).rowOther (by omega)), (((show Blk ((W4.alloc (.cells (zb 512 (fl 64 (fun _ _ => 0))) 26)).alloc (.cells (zb 512 (fl 64 (fun _ _ => 0))) 26)) (W4.heap.size + 1) 512 26 (fl 64 (fun _ _ => 0)) by have := Blk.new (W4.alloc (.cells (zb 512 (fl 64 (fun _ _ => 0))) 26)) 512 26 (fl 64 (fun _ _ => 0)); simpa using this).rowOther (by omega)).row (fl 64 (tmP p m d (dvT p m d F G) G))), (zr (zr ((hb.alloc (by have := hb.size; simp; omega) (.cells (zb 512 (fl 64 (fun _ _ => 0))) 26)).alloc (by have := hb.size; simp; omega) (.cells (zb 512 (fl 64 (fun _ _ => 0))) 26)) (by omega) _) (by omega) _)⟩
    rw [← hwo]
    clear hwo B0 B1 B2 B3 B4 B5 hb
    obtain ⟨B0, B1, B2, B3, B4, B5, B6, B7, hb⟩ := hzQ
    obtain ⟨N2, hNN⟩ : ∃ n : Nat, n = W4.heap.size := ⟨_, rfl⟩
    rw [← hNN] at lt_B0 lt_B1 lt_B2 lt_B3 lt_B4 lt_B5 lhb B6 B7 ⊢
    clear hNN
    have zN2_0 := lt_B0
    have zN2_1 := lt_B1
    have zN2_2 := lt_B2
    have zN2_3 := lt_B3
    have zN2_4 := lt_B4
    have zN2_5 := lt_B5
    have zN2 := lhb
    clear lt_B0 lt_B1 lt_B2 lt_B3 lt_B4 lt_B5 lhb
    try simp only [Act.put, pA, pB, pC]
    have lt_B0 := B0.lt
    have lt_B1 := B1.lt
    have lt_B2 := B2.lt
    have lt_B3 := B3.lt
    have lt_B4 := B4.lt
    have lt_B5 := B5.lt
    have lt_B6 := B6.lt
    have lt_B7 := B7.lt
    go_upto_region 5 with (first | rw [← z64] | rw [← zero512] | (refine zla (.tmp 10) B5 Try.underlying26 Try.size26 ?_) | (refine zlr rfl 38 (.tmp 5) rfl _ rfl 38 (fdC (p : Int) m).toArray B1 _ Try.underlying38 rfl 65 Try.size38 (by simp [fdC_len]) ?_) | (refine zla (.tmp 11) B6 Try.underlying26 Try.size26 ?_) | (go_at_call 50; refine (HK2.out _).mono ?_; rintro e W6 ⟨rfl, hW6⟩; replace B0 := B0.zw hW6; replace B1 := B1.zw hW6; replace B2 := B2.zw hW6; replace B3 := B3.zw hW6; replace B4 := B4.zw hW6; replace B5 := B5.zw hW6; replace B6 := B6.zw hW6; replace B7 := B7.zw hW6; replace hb := (hb).trans (hW6.mono (hb).size)) | (refine zsr (.tmp 10) (.tmp 29) (fl 64 (skA p Q (dvT p m d F G) 1)) B5 Try.size26 ?_; try simp only [Act.put]))
    obtain ⟨W7, hwo, hzQ⟩ : ∃ v : World, v = (W6.setRow (N1) (zb 512 (fl 64 (skA p Q (dvT p m d F G) 1)))) ∧ Blk v (w.heap.size) 512 26 (fl 64 F) ∧ Row v (w.heap.size + 1) 38 (fdC (p : Int) m).toArray ∧ Blk v (w.heap.size + 1 + 1) 512 26 (fl 64 G) ∧ Blk v (w.heap.size + 1 + 1 + 1) 512 26 (fl 64 (fun _ _ => 0)) ∧ Blk v (w.heap.size + 1 + 1 + 1 + 1) 512 26 (fl 64 (fun _ _ => 0)) ∧ Blk v (N1) 512 26 (fl 64 (skA p Q (dvT p m d F G) 1)) ∧ Blk v (N2) 512 26 (fl 64 (dvT p m d F G)) ∧ Blk v (N2 + 1) 512 26 (fl 64 (tmP p m d (dvT p m d F G) G)) ∧ Below w.heap.size w v := ⟨_, rfl, (B0.rowOther (by omega)), (B1.rowOther (by omega)), (B2.rowOther (by omega)), (B3.rowOther (by omega)), (B4.rowOther (by omega)), (B5.row (fl 64 (skA p Q (dvT p m d F G) 1))), (B6.rowOther (by omega)), (B7.rowOther (by omega)), (zr hb (by omega) _)⟩
    rw [← hwo]
    clear hwo B0 B1 B2 B3 B4 B5 B6 B7 hb
    obtain ⟨B0, B1, B2, B3, B4, B5, B6, B7, hb⟩ := hzQ
    try simp only [Act.put, pA, pB, pC]
    have lt_B0 := B0.lt
    have lt_B1 := B1.lt
    have lt_B2 := B2.lt
    have lt_B3 := B3.lt
    have lt_B4 := B4.lt
    have lt_B5 := B5.lt
    have lt_B6 := B6.lt
    have lt_B7 := B7.lt
    go_wp2_with (first | rw [← z64] | rw [← zero512] | (refine zla (.tmp 4) B0 Try.underlying26 Try.size26 ?_) | (refine zlr rfl 38 (.tmp 5) rfl _ rfl 38 (fdC (p : Int) m).toArray B1 _ Try.underlying38 rfl 65 Try.size38 (by simp [fdC_len]) ?_) | (refine zla (.tmp 12) B7 Try.underlying26 Try.size26 ?_) | (go_at_call 30; refine (HK3.out _).mono ?_; rintro e W8 ⟨rfl, hW8⟩; replace B0 := B0.zw hW8; replace B1 := B1.zw hW8; replace B2 := B2.zw hW8; replace B3 := B3.zw hW8; replace B4 := B4.zw hW8; replace B5 := B5.zw hW8; replace B6 := B6.zw hW8; replace B7 := B7.zw hW8; replace hb := (hb).trans (hW8.mono (hb).size)) | (refine zsr (.tmp 4) (.tmp 33) (fl 64 (skA p F (tmP p m d (dvT p m d F G) G) (-1))) B0 Try.size26 ?_; try simp only [Act.put]))
    obtain ⟨W9, hwo, hzQ⟩ : ∃ v : World, v = (W8.setRow (w.heap.size) (zb 512 (fl 64 (skA p F (tmP p m d (dvT p m d F G) G) (-1))))) ∧ Blk v (w.heap.size) 512 26 (fl 64 (skA p F (tmP p m d (dvT p m d F G) G) (-1))) ∧ Row v (w.heap.size + 1) 38 (fdC (p : Int) m).toArray ∧ Blk v (w.heap.size + 1 + 1) 512 26 (fl 64 G) ∧ Blk v (w.heap.size + 1 + 1 + 1) 512 26 (fl 64 (fun _ _ => 0)) ∧ Blk v (w.heap.size + 1 + 1 + 1 + 1) 512 26 (fl 64 (fun _ _ => 0)) ∧ Blk v (N1) 512 26 (fl 64 (skA p Q (dvT p m d F G) 1)) ∧ Blk v (N2) 512 26 (fl 64 (dvT p m d F G)) ∧ Blk v (N2 + 1) 512 26 (fl 64 (tmP p m d (dvT p m d F G) G)) ∧ Below w.heap.size w v := ⟨_, rfl, (B0.row (fl 64 (skA p F (tmP p m d (dvT p m d F G) G) (-1)))), (B1.rowOther (by omega)), (B2.rowOther (by omega)), (B3.rowOther (by omega)), (B4.rowOther (by omega)), (B5.rowOther (by omega)), (B6.rowOther (by omega)), (B7.rowOther (by omega)), (zr hb (by omega) _)⟩
    rw [← hwo]
    clear hwo B0 B1 B2 B3 B4 B5 B6 B7 hb
    obtain ⟨B0, B1, B2, B3, B4, B5, B6, B7, hb⟩ := hzQ
    try simp only [Act.put, pA, pB, pC]
    go_roundw
    case rel => exact ⟨fu, _, _, hI2, hb, B0, B1, B2, B3, B4, B5⟩
    case measure => rw [skAt_blk B0, skAt_blk BF0.out]; have h1 := HM.out; have h2 := HG0.out; have h3 : skD (skA p F (tmP p m d (dvT p m d F G) G) (-1)) < skD F := h1; omega
  have HV := Lib.hid (show (Q, F) = dq p m d F0 G by rw [← hI.out.1, gdR_stop (by omega)])
  go_upto_region 2 with (fail)
  refine zq Try.mixed (by kernel_rfl) (by kernel_rfl) (fun v => by (simp only [frL, Act.put, pA, pB, pC, Nat.reduceAdd, Nat.zero_add]; exact rfl))
   (fun L v W3 => Below wr.heap.size wr W3 ∧ VF L v [some (.agg (zb 512 (fl 64 F))), some (.int .i64 (skD F)), some (.agg (zb 512 (fl 64 G))), some (.int .i64 (skD G)), some (.bool false)]) ?_ ?_ ?_
  · intro v hv0
    exact ⟨(Below.refl _ wr).drew, VF.start⟩
  · refine (.cons rfl ?_ (.cons rfl ?_ (.cons rfl ?_ (.cons rfl ?_ (.cons rfl ?_ (.nil _))))))
    all_goals intro L v W3 hd hn ⟨hY, V⟩ K hK
    · refine zlc (B0.zw hY) Try.underlying26 Try.size26 ?_
      exact hK _ _ _ rfl ⟨hY, V.step 0 rfl⟩
    · have e0 := V.at (zdq hd 0 rfl) rfl
      go_wp2_with (go_at_call 14; refine (skDegree_any F _).mono ?_; rintro e wy ⟨rfl, hy⟩)
      exact hK _ (.int .i64 (skD F)) _ (by simp only [Act.put, pA, pB, pC, e0]) ⟨hY.trans (hy.mono hY.size), V.step 1 rfl⟩
    · refine zlc (B2.zw hY) Try.underlying26 Try.size26 ?_
      exact hK _ _ _ rfl ⟨hY, V.step 2 rfl⟩
    · have e2 := V.at (zdq hd 2 rfl) rfl
      go_wp2_with (go_at_call 14; refine (skDegree_any G _).mono ?_; rintro e wy ⟨rfl, hy⟩)
      exact hK _ (.int .i64 (skD G)) _ (by simp only [Act.put, pA, pB, pC, e2]) ⟨hY.trans (hy.mono hY.size), V.step 3 rfl⟩
    have e1 := V.at (zdq hd 1 rfl) rfl
    have e3 := V.at (zdq hd 3 rfl) rfl
    go_wp2_with fail
    try rw [show decide (skD G ≤ skD F) = false by simpa using hge]
    exact hK _ (.bool false) _ (by simp only [Act.put, pA, pB, pC, e1, e3]) ⟨hY, V.step 4 rfl⟩
  intro L v W3 hL ⟨hY, V⟩
  have e0 := V.at (hL 0 (by decide)) rfl
  have e1 := V.at (hL 1 (by decide)) rfl
  have e2 := V.at (hL 2 (by decide)) rfl
  have e3 := V.at (hL 3 (by decide)) rfl
  have e4 := V.at (hL 4 (by decide)) rfl
  clear hL V
  replace B0 := B0.zw hY
  replace B1 := B1.zw hY
  replace B2 := B2.zw hY
  replace B3 := B3.zw hY
  replace B4 := B4.zw hY
  replace B5 := B5.zw hY
  replace hb := hb.trans (hY.mono hb.size)
  clear hY
  simp only [Exit.then, e0, e1, e2, e3, e4]
  clear e0 e1 e2 e3 e4
  go_upto_region 6 with (fail)
  have lt_B0 : (w.heap.size) < W3.heap.size := B0.lt
  have lt_B1 : (w.heap.size + 1) < W3.heap.size := B1.lt
  have lt_B2 : (w.heap.size + 1 + 1) < W3.heap.size := B2.lt
  have lt_B3 : (w.heap.size + 1 + 1 + 1) < W3.heap.size := B3.lt
  have lt_B4 : (w.heap.size + 1 + 1 + 1 + 1) < W3.heap.size := B4.lt
  have lt_B5 : (N1) < W3.heap.size := B5.lt
  have hbase : w.heap.size ≤ W3.heap.size := hb.size
  refine zq Try.mixed (by kernel_rfl) (by kernel_rfl) (fun v => by (simp only [frL, Act.put, pA, pB, pC, Nat.reduceAdd, Nat.zero_add]; exact rfl))
   (fun L v W4 => Below w.heap.size w W4 ∧ Kx [w.heap.size + 1 + 1 + 1, w.heap.size + 1 + 1 + 1 + 1] W3 W4 ∧ (∃ g, Blk W4 (w.heap.size + 1 + 1 + 1) 512 26 (g)) ∧ (L 2 = false → Blk W4 (w.heap.size + 1 + 1 + 1) 512 26 (fl 64 (fun _ _ => 0))) ∧ (L 2 = true → Blk W4 (w.heap.size + 1 + 1 + 1) 512 26 (fl 64 Q)) ∧ (∃ g, Blk W4 (w.heap.size + 1 + 1 + 1 + 1) 512 26 (g)) ∧ (L 3 = false → Blk W4 (w.heap.size + 1 + 1 + 1 + 1) 512 26 (fl 64 (fun _ _ => 0))) ∧ (L 3 = true → Blk W4 (w.heap.size + 1 + 1 + 1 + 1) 512 26 (fl 64 F)) ∧ VF L v [some (.agg (zb 512 (fl 64 Q))), some (.agg (zb 512 (fl 64 F))), none, none]) ?_ ?_ ?_
  · intro v hv0
    exact ⟨hb.drew, Kx.start _ _, ⟨_, B3.drew⟩, (fun _ => B3.drew), (fun h => by cases h), ⟨_, B4.drew⟩, (fun _ => B4.drew), (fun h => by cases h), VF.start⟩
  · refine (.cons rfl ?_ (.cons rfl ?_ (.cons rfl ?_ (.cons rfl ?_ (.nil _)))))
    all_goals intro L v W4 hd hn ⟨hB, hX, x3, q3, n3, x4, q4, n4, V⟩ K hK
    · refine wp_load_any 26 _ rfl _ rfl 512 26 _ (B5.kx hX (by simp <;> omega)) _ Try.underlying26 rfl Try.size26 ?_
      exact hK _ _ _ rfl ⟨hB, hX, x3, q3, n3, x4, q4, n4, V.step 0 rfl⟩
    · refine wp_load_any 26 _ rfl _ rfl 512 26 _ (B0.kx hX (by simp <;> omega)) _ Try.underlying26 rfl Try.size26 ?_
      exact hK _ _ _ rfl ⟨hB, hX, x3, q3, n3, x4, q4, n4, V.step 1 rfl⟩
    · have e0 := V.at (zdq hd 0 rfl) rfl
      obtain ⟨gz, hk⟩ := x3
      refine zsb 26 _ _ rfl _ 512 (fl 64 Q) rfl e0 26 gz hk Try.size26 ?_
      exact hK _ undef _ rfl ⟨zr hB (by omega) _, hX.row (by simp) _, ⟨_, hk.row _⟩, (fun h => absurd h (by simp [setL])), (fun _ => hk.row _), (let ⟨g, h⟩ := x4; ⟨g, (h).rowOther (by omega)⟩), (fun h => (q4 h).rowOther (by omega)), (fun h => (n4 h).rowOther (by omega)), V.skip 2 rfl⟩
    have e1 := V.at (zdq hd 1 rfl) rfl
    obtain ⟨gz, hk⟩ := x4
    refine zsb 26 _ _ rfl _ 512 (fl 64 F) rfl e1 26 gz hk Try.size26 ?_
    exact hK _ undef _ rfl ⟨zr hB (by omega) _, hX.row (by simp) _, (let ⟨g, h⟩ := x3; ⟨g, (h).rowOther (by omega)⟩), (fun h => (q3 h).rowOther (by omega)), (fun h => (n3 h).rowOther (by omega)), ⟨_, hk.row _⟩, (fun h => absurd h (by simp [setL])), (fun _ => hk.row _), V.skip 3 rfl⟩
  intro L v W4 hL ⟨hB, hX, x3, q3, n3, x4, q4, n4, V⟩
  have r3 := n3 (hL 2 (by decide))
  have r4 := n4 (hL 3 (by decide))
  have e0 := V.at (hL 0 (by decide)) rfl
  have e1 := V.at (hL 1 (by decide)) rfl
  clear hL x3 q3 n3 x4 q4 n4 V
  replace B0 := B0.kx hX (by simp <;> omega)
  replace B1 := B1.kx hX (by simp <;> omega)
  replace B2 := B2.kx hX (by simp <;> omega)
  replace B5 := B5.kx hX (by simp <;> omega)
  clear hX
  simp only [Exit.then, e0, e1]
  clear e0 e1
  replace B3 := r3
  clear r3
  replace B4 := r4
  clear r4
  replace hb := hB
  clear hB
  clear hbase lt_B0 lt_B1 lt_B2 lt_B3 lt_B4 lt_B5
  go_wp2_with fail
  refine bodyPost_ret (results_any2 rfl _ _ _ 512 _ _ _ 512 _ _ rfl B3 _ Try.underlying26 rfl Try.size26 rfl B4 _ Try.underlying26 rfl Try.size26) rfl ⟨by rw [← HV.out], hb⟩
end Go.Proofs.Ytoncepgcfifgbab
namespace Go.Proofs.Ytoncepgcfifgbab
open Go.RowKit
attribute [local irreducible] deg invN dS qS stp stpr quoP resP oneP upP upF hmR mmP shA addK bzD bzU bzW
theorem mmP_rest {p d : Nat} {a b m : Nat → Nat} (hp : p = 2 ∨ p = 3 ∨ p = 5 ∨ p = 7) (hb : ∀ k, k < 64 → b k < p) (hm : ∀ k, k < 64 → m k < p) (hmon : mon m d) : ∀ k, k < 64 → mmP p a (resP p b m) m k = mmP p a b m k := by
 have p0 : 0 < p := by omega
 have h0 : 0 ≤ deg m := by rw [hmon.1]; omega
 refine res_same (fun k hk => mmP_lt p0 k (by omega)) (fun k hk => mmP_lt p0 k (by omega)) hmon (by rw [← hmon.1]; exact mmP_deg hp hm h0) (by rw [← hmon.1]; exact mmP_deg hp hm h0) ?_
 refine rm_trans (rm_symm (mmP_rm hp hm h0)) (rm_trans ?_ (mmP_rm hp hm h0))
 exact rm_mz2 (fin_lz _) (fin_lz _) (rm_refl _ _ _) (rm_symm (res_rm hp hb hm h0))
end Go.Proofs.Ytoncepgcfifgbab
namespace Go.Proofs.Ytoncepgcfifgbab
open Go Go.RowKit
attribute [local irreducible] deg addK strP frI frN mmP pmP resP bzU bzD bzW skA skD
theorem l03Inverse_any (p : Nat) (m y : Nat → Nat) (w : World) (hpr : p = 2 ∨ p = 3 ∨ p = 5 ∨ p = 7) (lm : ∀ k, k < 64 → m k < p) (h0 : 0 ≤ deg m) (ly : ∀ k, k < 64 → y k < p) :
 Calls Try.prog 42 #[.int .i64 (p : Int), .agg (zb 64 y), .agg (zb 64 m)] w fun e w' => e = .returned (.agg (zb 64 (resP p (bzU p y m) m))) ∧ Below w.heap.size w w' := by
 have HB := Lib.hid (fun W => l01Bezout_any p y m W hpr ly lm (.inr h0))
 have HP := Lib.hid (fun W => l01Mod_any p (bzU p y m) m W hpr (fun k _ => bzU_lt (by omega) k) lm h0)
 clear h0 ly lm
 go_enter Try.func42, Try.ntmps42
 go_upto_region 1 with (fail)
 rw [← z64]
 obtain ⟨W1, hwo⟩ : ∃ v : World, v = (((w.alloc (.cells (zb 64 (y)) 24)).alloc (.cells (zb 64 (m)) 24)).alloc (.cells (zb 64 (fun _ => 0)) 24)) := ⟨_, rfl⟩
 have B0 : Blk W1 (w.heap.size) 64 24 (y) := by subst hwo; have := (((Blk.new w 64 24 (y)).alloc (.cells (zb 64 (m)) 24)).alloc (.cells (zb 64 (fun _ => 0)) 24)); simpa using this
 have B1 : Blk W1 (w.heap.size + 1) 64 24 (m) := by subst hwo; have := ((Blk.new (w.alloc (.cells (zb 64 (y)) 24)) 64 24 (m)).alloc (.cells (zb 64 (fun _ => 0)) 24)); simpa using this
 have B2 : Blk W1 (w.heap.size + 1 + 1) 64 24 (fun _ => 0) := by subst hwo; have := (Blk.new ((w.alloc (.cells (zb 64 (y)) 24)).alloc (.cells (zb 64 (m)) 24)) 64 24 (fun _ => 0)); simpa using this
 have hb : Below w.heap.size w W1 := by subst hwo; exact ((((Below.refl _ _).alloc (Nat.le_refl _) _).alloc (by simp) _).alloc (by simp; omega) _)
 rw [← hwo]
 clear hwo
 have lt_B0 := B0.lt
 have lt_B1 := B1.lt
 have lt_B2 := B2.lt
 go_upto_region 2 with (first | rw [← z64] | (refine zla (.tmp 4) B0 Try.underlying24 Try.size24 ?_) | (refine zla (.tmp 5) B1 Try.underlying24 Try.size24 ?_) | (go_at_call 62; refine (HB.out _).mono ?_; rintro e W2 ⟨rfl, hW2⟩; replace B0 := B0.zw hW2; replace B1 := B1.zw hW2; replace B2 := B2.zw hW2; replace hb := (hb).trans (hW2.mono (hb).size)) | (refine wpList_store_blk rfl 24 (.tmp 7) (.tmp 15) rfl _ 64 (bzD p y m) rfl rfl 24 _ ((((Blk.new W2 64 24 (fun _ => 0)).alloc (.cells (zb 64 (fun _ => 0)) 24)).alloc (.cells (zb 64 (fun _ => 0)) 24))) Try.size24 ?_; try simp only [Act.put]) | (refine wpList_store_blk rfl 24 (.tmp 8) (.tmp 16) rfl _ 64 (bzU p y m) rfl rfl 24 _ ((((show Blk ((W2.alloc (.cells (zb 64 (fun _ => 0)) 24)).alloc (.cells (zb 64 (fun _ => 0)) 24)) (W2.heap.size + 1) 64 24 (fun _ => 0) by have := Blk.new (W2.alloc (.cells (zb 64 (fun _ => 0)) 24)) 64 24 (fun _ => 0); simpa using this).alloc (.cells (zb 64 (fun _ => 0)) 24)).rowOther (by omega))) Try.size24 ?_; try simp only [Act.put]) | (refine wpList_store_blk rfl 24 (.tmp 9) (.tmp 17) rfl _ 64 (bzW p y m) rfl rfl 24 _ ((((show Blk (((W2.alloc (.cells (zb 64 (fun _ => 0)) 24)).alloc (.cells (zb 64 (fun _ => 0)) 24)).alloc (.cells (zb 64 (fun _ => 0)) 24)) (W2.heap.size + 1 + 1) 64 24 (fun _ => 0) by have := Blk.new ((W2.alloc (.cells (zb 64 (fun _ => 0)) 24)).alloc (.cells (zb 64 (fun _ => 0)) 24)) 64 24 (fun _ => 0); simpa using this).rowOther (by omega)).rowOther (by omega))) Try.size24 ?_; try simp only [Act.put]))
 have lt_B0 := B0.lt
 have lt_B1 := B1.lt
 have lt_B2 := B2.lt
 have lhb := hb.size
 obtain ⟨W3, hwo, hzQ⟩ : ∃ v : World, v = ((((((W2.alloc (.cells (zb 64 (fun _ => 0)) 24)).alloc (.cells (zb 64 (fun _ => 0)) 24)).alloc (.cells (zb 64 (fun _ => 0)) 24)).setRow (W2.heap.size) (zb 64 (bzD p y m))).setRow (W2.heap.size + 1) (zb 64 (bzU p y m))).setRow (W2.heap.size + 1 + 1) (zb 64 (bzW p y m))) ∧ Blk v (w.heap.size) 64 24 (y) ∧ Blk v (w.heap.size + 1) 64 24 (m) ∧ Blk v (w.heap.size + 1 + 1) 64 24 (fun _ => 0) ∧ Blk v (W2.heap.size) 64 24 (bzD p y m) ∧ Blk v (W2.heap.size + 1) 64 24 (bzU p y m) ∧ Blk v (W2.heap.size + 1 + 1) 64 24 (bzW p y m) ∧ Below w.heap.size w v := ⟨_, rfl, ((((((B0.alloc (.cells (zb 64 (fun _ => 0)) 24)).alloc (.cells (zb 64 (fun _ => 0)) 24)).alloc (.cells (zb 64 (fun _ => 0)) 24)).rowOther (by omega)).rowOther (by omega)).rowOther (by omega)), ((((((B1.alloc (.cells (zb 64 (fun _ => 0)) 24)).alloc (.cells (zb 64 (fun _ => 0)) 24)).alloc (.cells (zb 64 (fun _ => 0)) 24)).rowOther (by omega)).rowOther (by omega)).rowOther (by omega)), ((((((B2.alloc (.cells (zb 64 (fun _ => 0)) 24)).alloc (.cells (zb 64 (fun _ => 0)) 24)).alloc (.cells (zb 64 (fun _ => 0)) 24)).rowOther (by omega)).rowOther (by omega)).rowOther (by omega)), ((((((Blk.new W2 64 24 (fun _ => 0)).alloc (.cells (zb 64 (fun _ => 0)) 24)).alloc (.cells (zb 64 (fun _ => 0)) 24)).row (bzD p y m)).rowOther (by omega)).rowOther (by omega)), (((((show Blk ((W2.alloc (.cells (zb 64 (fun _ => 0)) 24)).alloc (.cells (zb 64 (fun _ => 0)) 24)) (W2.heap.size + 1) 64 24 (fun _ => 0) by have := Blk.new (W2.alloc (.cells (zb 64 (fun _ => 0)) 24)) 64 24 (fun _ => 0); simpa using this).alloc (.cells (zb 64 (fun _ => 0)) 24)).rowOther (by omega)).row (bzU p y m)).rowOther (by omega)), ((((show Blk (((W2.alloc (.cells (zb 64 (fun _ => 0)) 24)).alloc (.cells (zb 64 (fun _ => 0)) 24)).alloc (.cells (zb 64 (fun _ => 0)) 24)) (W2.heap.size + 1 + 1) 64 24 (fun _ => 0) by have := Blk.new ((W2.alloc (.cells (zb 64 (fun _ => 0)) 24)).alloc (.cells (zb 64 (fun _ => 0)) 24)) 64 24 (fun _ => 0); simpa using this).rowOther (by omega)).rowOther (by omega)).row (bzW p y m)), (zr (zr (zr (((hb.alloc (by have := hb.size; simp; omega) (.cells (zb 64 (fun _ => 0)) 24)).alloc (by have := hb.size; simp; omega) (.cells (zb 64 (fun _ => 0)) 24)).alloc (by have := hb.size; simp; omega) (.cells (zb 64 (fun _ => 0)) 24)) (by omega) _) (by omega) _) (by omega) _)⟩
 rw [← hwo]
 clear hwo B0 B1 B2 hb
 obtain ⟨B0, B1, B2, B3, B4, B5, hb⟩ := hzQ
 obtain ⟨N1, hNN⟩ : ∃ n : Nat, n = W2.heap.size := ⟨_, rfl⟩
 rw [← hNN] at lt_B0 lt_B1 lt_B2 lhb B3 B4 B5 ⊢
 clear hNN
 have zN1_0 := lt_B0
 have zN1_1 := lt_B1
 have zN1_2 := lt_B2
 have zN1 := lhb
 clear lt_B0 lt_B1 lt_B2 lhb
 try simp only [Act.put, pA, pB, pC]
 have lt_B0 := B0.lt
 have lt_B1 := B1.lt
 have lt_B2 := B2.lt
 have lt_B3 := B3.lt
 have lt_B4 := B4.lt
 have lt_B5 := B5.lt
 go_wp2_with (first | rw [← z64] | (refine zla (.tmp 8) B4 Try.underlying24 Try.size24 ?_) | (refine zla (.tmp 5) B1 Try.underlying24 Try.size24 ?_) | (go_at_call 57; refine (HP.out _).mono ?_; rintro e W4 ⟨rfl, hW4⟩; replace B0 := B0.zw hW4; replace B1 := B1.zw hW4; replace B2 := B2.zw hW4; replace B3 := B3.zw hW4; replace B4 := B4.zw hW4; replace B5 := B5.zw hW4; replace hb := (hb).trans (hW4.mono (hb).size)) | (refine zsr (.tmp 6) (.tmp 21) (resP p (bzU p y m) m) B2 Try.size24 ?_; try simp only [Act.put]))
 obtain ⟨W5, hwo, hzQ⟩ : ∃ v : World, v = (W4.setRow (w.heap.size + 1 + 1) (zb 64 (resP p (bzU p y m) m))) ∧ Blk v (w.heap.size) 64 24 (y) ∧ Blk v (w.heap.size + 1) 64 24 (m) ∧ Blk v (w.heap.size + 1 + 1) 64 24 (resP p (bzU p y m) m) ∧ Blk v (N1) 64 24 (bzD p y m) ∧ Blk v (N1 + 1) 64 24 (bzU p y m) ∧ Blk v (N1 + 1 + 1) 64 24 (bzW p y m) ∧ Below w.heap.size w v := ⟨_, rfl, (B0.rowOther (by omega)), (B1.rowOther (by omega)), (B2.row (resP p (bzU p y m) m)), (B3.rowOther (by omega)), (B4.rowOther (by omega)), (B5.rowOther (by omega)), (zr hb (by omega) _)⟩
 rw [← hwo]
 clear hwo B0 B1 B2 B3 B4 B5 hb
 obtain ⟨B0, B1, B2, B3, B4, B5, hb⟩ := hzQ
 try simp only [Act.put, pA, pB, pC]
 refine bodyPost_ret (zrb rfl _ _ _ 64 24 5 _ rfl B2 Try.underlying24 Try.size24) rfl ⟨rfl, hb⟩
theorem l03Term_any (a : Nat → Nat) (q : Nat) (q8 : q < 8) (w : World) :
 Calls Try.prog 44 #[.agg (zb 64 a), .int .i64 (q : Int)] w fun e w' => e = .returned (.agg (zb 512 (fl 64 (updR (fun _ _ => 0) q a)))) ∧ Below w.heap.size w w' := by
 go_enter Try.func44, Try.ntmps44
 go_upto_region 1 with (fail)
 rw [← zero512]
 obtain ⟨W1, hwo⟩ : ∃ v : World, v = ((w.alloc (.cells (zb 64 (a)) 24)).alloc (.cells (zb 512 (fl 64 (fun _ _ => 0))) 26)) := ⟨_, rfl⟩
 have B0 : Blk W1 (w.heap.size) 64 24 (a) := by subst hwo; have := ((Blk.new w 64 24 (a)).alloc (.cells (zb 512 (fl 64 (fun _ _ => 0))) 26)); simpa using this
 have B1 : Blk W1 (w.heap.size + 1) 512 26 (fl 64 (fun _ _ => 0)) := by subst hwo; have := (Blk.new (w.alloc (.cells (zb 64 (a)) 24)) 512 26 (fl 64 (fun _ _ => 0))); simpa using this
 have hb : Below w.heap.size w W1 := by subst hwo; exact (((Below.refl _ _).alloc (Nat.le_refl _) _).alloc (by simp) _)
 rw [← hwo]
 clear hwo
 have lt_B0 := B0.lt
 have lt_B1 := B1.lt
 go_upto_region 2 with (first | rw [← z64] | rw [← zero512] | (refine wpList_store_blk rfl 26 (.tmp 5) (.tmp 6) rfl _ 512 (fl 64 (fun _ _ => 0)) rfl rfl 26 _ ((Blk.new W1 512 26 (fl 64 (fun _ _ => 0)))) Try.size26 ?_; try simp only [Act.put]))
 have lt_B0 := B0.lt
 have lt_B1 := B1.lt
 have lhb := hb.size
 obtain ⟨W2, hwo, hzQ⟩ : ∃ v : World, v = ((W1.alloc (.cells (zb 512 (fl 64 (fun _ _ => 0))) 26)).setRow (W1.heap.size) (zb 512 (fl 64 (fun _ _ => 0)))) ∧ Blk v (w.heap.size) 64 24 (a) ∧ Blk v (w.heap.size + 1) 512 26 (fl 64 (fun _ _ => 0)) ∧ Blk v (W1.heap.size) 512 26 (fl 64 (fun _ _ => 0)) ∧ Below w.heap.size w v := ⟨_, rfl, ((B0.alloc (.cells (zb 512 (fl 64 (fun _ _ => 0))) 26)).rowOther (by omega)), ((B1.alloc (.cells (zb 512 (fl 64 (fun _ _ => 0))) 26)).rowOther (by omega)), ((Blk.new W1 512 26 (fl 64 (fun _ _ => 0))).row (fl 64 (fun _ _ => 0))), (zr (hb.alloc (by have := hb.size; simp; omega) (.cells (zb 512 (fl 64 (fun _ _ => 0))) 26)) (by omega) _)⟩
 rw [← hwo]
 clear hwo B0 B1 hb
 obtain ⟨B0, B1, B2, hb⟩ := hzQ
 obtain ⟨N1, hNN⟩ : ∃ n : Nat, n = W1.heap.size := ⟨_, rfl⟩
 rw [← hNN] at lt_B0 lt_B1 lhb B2 ⊢
 clear hNN
 have zN1_0 := lt_B0
 have zN1_1 := lt_B1
 have zN1 := lhb
 clear lt_B0 lt_B1 lhb
 try simp only [Act.put, pA, pB, pC]
 have lt_B0 := B0.lt
 have lt_B1 := B1.lt
 have lt_B2 := B2.lt
 go_upto_region 3 with (first | rw [← z64] | (refine zla (.tmp 2) B0 Try.underlying24 Try.size24 ?_) | (refine zss rfl 24 (.tmp 9) (.tmp 8) rfl _ (q) (a) rfl rfl 26 _ (B2) (by omega) Try.size24 ?_; try simp only [Act.put]))
 obtain ⟨W3, hwo, hzQ⟩ : ∃ v : World, v = (W2.setRow (N1) (zb 512 (fl 64 (updR (fun _ _ => 0) q (a))))) ∧ Blk v (w.heap.size) 64 24 (a) ∧ Blk v (w.heap.size + 1) 512 26 (fl 64 (fun _ _ => 0)) ∧ Blk v (N1) 512 26 (fl 64 (updR (fun _ _ => 0) q (a))) ∧ Below w.heap.size w v := ⟨_, rfl, (B0.rowOther (by omega)), (B1.rowOther (by omega)), (B2.row (fl 64 (updR (fun _ _ => 0) q (a)))), (zr hb (by omega) _)⟩
 rw [← hwo]
 clear hwo B0 B1 B2 hb
 obtain ⟨B0, B1, B2, hb⟩ := hzQ
 try simp only [Act.put, pA, pB, pC]
 have lt_B0 := B0.lt
 have lt_B1 := B1.lt
 have lt_B2 := B2.lt
 go_wp2_with (first | rw [← z64] | rw [← zero512] | (refine zla (.tmp 5) B2 Try.underlying26 Try.size26 ?_) | (refine zsr (.tmp 4) (.tmp 10) (fl 64 (updR (fun _ _ => 0) q (a))) B1 Try.size26 ?_; try simp only [Act.put]))
 obtain ⟨W4, hwo, hzQ⟩ : ∃ v : World, v = (W3.setRow (w.heap.size + 1) (zb 512 (fl 64 (updR (fun _ _ => 0) q (a))))) ∧ Blk v (w.heap.size) 64 24 (a) ∧ Blk v (w.heap.size + 1) 512 26 (fl 64 (updR (fun _ _ => 0) q (a))) ∧ Blk v (N1) 512 26 (fl 64 (updR (fun _ _ => 0) q (a))) ∧ Below w.heap.size w v := ⟨_, rfl, (B0.rowOther (by omega)), (B1.row (fl 64 (updR (fun _ _ => 0) q (a)))), (B2.rowOther (by omega)), (zr hb (by omega) _)⟩
 rw [← hwo]
 clear hwo B0 B1 B2 hb
 obtain ⟨B0, B1, B2, hb⟩ := hzQ
 try simp only [Act.put, pA, pB, pC]
 refine bodyPost_ret (results_any rfl _ _ _ 512 _ _ rfl B1 _ Try.underlying26 rfl Try.size26) rfl ⟨rfl, hb⟩
theorem l03Right_any (p : Nat) (m : Nat → Nat) (F0 G : Nat → Nat → Nat) (w : World) (hpr : p = 2 ∨ p = 3 ∨ p = 5 ∨ p = 7) (lm : ∀ k, k < 64 → m k < p) (d : Nat) (hmon : mon m d) (hi : irr p (cut m) d) (hd9 : d ≤ 9) (hF : rsk p m F0) (hG : rsk p m G) (hG0 : 0 ≤ skD G) :
 Calls Try.prog 22 #[.int .i64 (p : Int), .agg (zb 64 m), .agg (zb 512 (fl 64 F0)), .agg (zb 512 (fl 64 G))] w fun e w' => e = .returned (.tuple #[.agg (zb 512 (fl 64 (dq p m d F0 G).1)), .agg (zb 512 (fl 64 (dq p m d F0 G).2))]) ∧ Below w.heap.size w w' := by
 have p0 : 0 < p := by omega
 have hd := hmon.1
 have hd1 := hi.1
 have h0 : 0 ≤ deg m := by omega
 have h9 : deg m ≤ 9 := by omega
 have p2 : 2 ≤ p := by omega
 have p7 : p ≤ 7 := by omega
 have HI0 := Lib.hid (show skD F0 < ((8 : Nat) : Int) ∧ rsk p m F0 from ⟨by have := zsd F0; omega, hF⟩)
 have HE := Lib.hid (show zb 512 (fl 64 (gdU (fun F => dvA p m d F G) (fun F => dvF p m d F G) (skD G) 8 (fun _ _ => 0) F0).1) = zb 512 (fl 64 (dq p m d F0 G).1) ∧ (gdU (fun F => dvA p m d F G) (fun F => dvF p m d F G) (skD G) 8 (fun _ _ => 0) F0).2 = (dq p m d F0 G).2 from by
  obtain ⟨a, b⟩ := gdU_eq p0 h0 (GD_right hpr lm hmon hi hd9 hG hG0) 8 (fun _ _ => 0) (fun _ _ => 0) F0 (fun _ _ => zero_rsd p0 h0) hF (fun _ _ _ _ => rfl) (fun _ _ _ _ _ => rfl)
  unfold dq
  exact ⟨zbc (n := 512) (fl_congr (n := 8) (c := 64) (by decide) b), a⟩)
 obtain ⟨k, hk⟩ : ∃ k : Nat, skD G = (k : Int) := ⟨(skD G).toNat, by omega⟩
 obtain ⟨k8, gk⟩ := skN_row hk
 have HS := Lib.hid (fun (F : Nat → Nat → Nat) (hF : rsk p m F) (h : skD G ≤ skD F) => dv_step hpr lm hmon hi hd9 hF hG hG0 h)
 have HIV := Lib.hid (fun (y : Nat → Nat) (hy : rsd p m y) W => l03Inverse_any p m y W hpr lm h0 hy.1)
 have HFR := Lib.hid (fun q (hq : q ≤ 1000) W => l03Frobenius_any p m (G k) q W hpr lm d hd hd1 hd9 hq (hG k k8))
 have HRF := Lib.hid (fun q => (frN_ok hpr lm h0 h9 (hG k k8) q).1)
 have HMM := Lib.hid (show ∀ (F : Nat → Nat → Nat) (n q : Nat), rsk p m F → skD F = (n : Int) → n - k = q → ∀ W, Calls Try.prog 41 #[.int .i64 (p : Int), .agg (zb 64 (F n)), .agg (zb 64 (resP p (bzU p (frN p m (G k) (q % d)) m) m)), .agg (zb 64 m)] W fun e w' => e = .returned (.agg (zb 64 (dvA p m d F G))) ∧ Below W.heap.size W w' from fun F n q hF hn hq W => by
  have hu : ∀ k, k < 64 → bzU p (frN p m (G k) (q % d)) m k < p := fun k _ => bzU_lt p0 k
  have h := l01MulMod_any p (F n) (resP p (bzU p (frN p m (G k) (q % d)) m) m) m W hpr (hF n (skN_row hn).1).1 (resP_lt p0 (fun k _ => bzU_lt p0 k)) lm h0
  rw [zbc (mmP_rest (a := F n) hpr (fun k _ => bzU_lt p0 k) lm hmon)] at h
  unfold dvA
  rw [hn, hk, show (n : Int).toNat - (k : Int).toNat = q by omega]
  exact h)
 have HTE := Lib.hid (show ∀ (F : Nat → Nat → Nat) (n q : Nat), skD F = (n : Int) → n - k = q → q < 8 → ∀ W, Calls Try.prog 44 #[.agg (zb 64 (dvA p m d F G)), .int .i64 (q : Int)] W fun e w' => e = .returned (.agg (zb 512 (fl 64 (dvT p m d F G)))) ∧ Below W.heap.size W w' from fun F n q hn hq q8 W => by
  have h := l03Term_any (dvA p m d F G) q q8 W
  unfold dvT sng
  rw [hn, hk, show (n : Int).toNat - (k : Int).toNat = q by omega]
  exact h)
 have HTI := Lib.hid (fun (T : Nat → Nat → Nat) (hT : rsk p m T) (h : skD T + skD G ≤ 7) W => l03Times_ok p m T G W hpr lm d hd hd1 hd9 (fun i hi8 => (hT i hi8).1) hG (by omega))
 have HAD := Lib.hid (fun (Q T : Nat → Nat → Nat) (hQ : rsk p m Q) (hT : rsk p m T) W => l03Add_any p Q T (-1) W p2 p7 (by omega) (by omega) (fun i hi8 => (hQ i hi8).1) (fun i hi8 => (hT i hi8).1))
 have HP := Lib.hid (fun (F G : Nat → Nat → Nat) => show rsk p m (tmP p m d F G) from fun i _ => tmP_rsd hpr lm h0 i)
 have HRG := Lib.hid (hG k k8)
 have HGD := Lib.hid (show ∀ W, Calls Try.prog 10 #[.agg (zb 512 (fl 64 G))] W fun e w' => e = .returned (.int .i64 (k : Int)) ∧ Below W.heap.size W w' from fun W => by have := l03Deg_any G W; rwa [hk] at this)
 have HK := Lib.hid hk
 clear hF hG hd hd1 h0 h9 hmon hi lm hpr hG0 gk hk
 go_enter Try.func22, Try.ntmps22
 go_upto_region 1 with (fail)
 rw [← zero512]
 obtain ⟨W1, hwo⟩ : ∃ v : World, v = (((((w.alloc (.cells (zb 64 (m)) 24)).alloc (.cells (zb 512 (fl 64 F0)) 26)).alloc (.cells (zb 512 (fl 64 G)) 26)).alloc (.cells (zb 512 (fl 64 (fun _ _ => 0))) 26)).alloc (.cells (zb 512 (fl 64 (fun _ _ => 0))) 26)) := ⟨_, rfl⟩
 have B0 : Blk W1 (w.heap.size) 64 24 (m) := by subst hwo; have := (((((Blk.new w 64 24 (m)).alloc (.cells (zb 512 (fl 64 F0)) 26)).alloc (.cells (zb 512 (fl 64 G)) 26)).alloc (.cells (zb 512 (fl 64 (fun _ _ => 0))) 26)).alloc (.cells (zb 512 (fl 64 (fun _ _ => 0))) 26)); simpa using this
 have B1 : Blk W1 (w.heap.size + 1) 512 26 (fl 64 F0) := by subst hwo; have := ((((Blk.new (w.alloc (.cells (zb 64 (m)) 24)) 512 26 (fl 64 F0)).alloc (.cells (zb 512 (fl 64 G)) 26)).alloc (.cells (zb 512 (fl 64 (fun _ _ => 0))) 26)).alloc (.cells (zb 512 (fl 64 (fun _ _ => 0))) 26)); simpa using this
 have B2 : Blk W1 (w.heap.size + 1 + 1) 512 26 (fl 64 G) := by subst hwo; have := (((Blk.new ((w.alloc (.cells (zb 64 (m)) 24)).alloc (.cells (zb 512 (fl 64 F0)) 26)) 512 26 (fl 64 G)).alloc (.cells (zb 512 (fl 64 (fun _ _ => 0))) 26)).alloc (.cells (zb 512 (fl 64 (fun _ _ => 0))) 26)); simpa using this
 have B3 : Blk W1 (w.heap.size + 1 + 1 + 1) 512 26 (fl 64 (fun _ _ => 0)) := by subst hwo; have := ((Blk.new (((w.alloc (.cells (zb 64 (m)) 24)).alloc (.cells (zb 512 (fl 64 F0)) 26)).alloc (.cells (zb 512 (fl 64 G)) 26)) 512 26 (fl 64 (fun _ _ => 0))).alloc (.cells (zb 512 (fl 64 (fun _ _ => 0))) 26)); simpa using this
 have B4 : Blk W1 (w.heap.size + 1 + 1 + 1 + 1) 512 26 (fl 64 (fun _ _ => 0)) := by subst hwo; have := (Blk.new ((((w.alloc (.cells (zb 64 (m)) 24)).alloc (.cells (zb 512 (fl 64 F0)) 26)).alloc (.cells (zb 512 (fl 64 G)) 26)).alloc (.cells (zb 512 (fl 64 (fun _ _ => 0))) 26)) 512 26 (fl 64 (fun _ _ => 0))); simpa using this
 have hb : Below w.heap.size w W1 := by subst hwo; exact ((((((Below.refl _ _).alloc (Nat.le_refl _) _).alloc (by simp) _).alloc (by simp; omega) _).alloc (by simp; omega) _).alloc (by simp; omega) _)
 rw [← hwo]
 clear hwo
 have lt_B0 := B0.lt
 have lt_B1 := B1.lt
 have lt_B2 := B2.lt
 have lt_B3 := B3.lt
 have lt_B4 := B4.lt
 go_upto_region 2 with (first | rw [← z64] | rw [← zero512] | (refine zla (.tmp 7) B2 Try.underlying26 Try.size26 ?_) | (go_at_call 10; refine (HGD.out _).mono ?_; rintro e W2 ⟨rfl, hW2⟩; replace B0 := B0.zw hW2; replace B1 := B1.zw hW2; replace B2 := B2.zw hW2; replace B3 := B3.zw hW2; replace B4 := B4.zw hW2; replace hb := (hb).trans (hW2.mono (hb).size)) | (refine wpList_store_blk rfl 26 (.tmp 10) (.tmp 16) rfl _ 512 (fl 64 (fun _ _ => 0)) rfl rfl 26 _ ((Blk.new W2 512 26 (fl 64 (fun _ _ => 0)))) Try.size26 ?_; try simp only [Act.put]; go_upto_region 2 with (fail)))
 have lt_B0 := B0.lt
 have lt_B1 := B1.lt
 have lt_B2 := B2.lt
 have lt_B3 := B3.lt
 have lt_B4 := B4.lt
 have lhb := hb.size
 obtain ⟨W3, hwo, hzQ⟩ : ∃ v : World, v = ((W2.alloc (.cells (zb 512 (fl 64 (fun _ _ => 0))) 26)).setRow (W2.heap.size) (zb 512 (fl 64 (fun _ _ => 0)))) ∧ Blk v (w.heap.size) 64 24 (m) ∧ Blk v (w.heap.size + 1) 512 26 (fl 64 F0) ∧ Blk v (w.heap.size + 1 + 1) 512 26 (fl 64 G) ∧ Blk v (w.heap.size + 1 + 1 + 1) 512 26 (fl 64 (fun _ _ => 0)) ∧ Blk v (w.heap.size + 1 + 1 + 1 + 1) 512 26 (fl 64 (fun _ _ => 0)) ∧ Blk v (W2.heap.size) 512 26 (fl 64 (fun _ _ => 0)) ∧ Below w.heap.size w v := ⟨_, rfl, ((B0.alloc (.cells (zb 512 (fl 64 (fun _ _ => 0))) 26)).rowOther (by omega)), ((B1.alloc (.cells (zb 512 (fl 64 (fun _ _ => 0))) 26)).rowOther (by omega)), ((B2.alloc (.cells (zb 512 (fl 64 (fun _ _ => 0))) 26)).rowOther (by omega)), ((B3.alloc (.cells (zb 512 (fl 64 (fun _ _ => 0))) 26)).rowOther (by omega)), ((B4.alloc (.cells (zb 512 (fl 64 (fun _ _ => 0))) 26)).rowOther (by omega)), ((Blk.new W2 512 26 (fl 64 (fun _ _ => 0))).row (fl 64 (fun _ _ => 0))), (zr (hb.alloc (by have := hb.size; simp; omega) (.cells (zb 512 (fl 64 (fun _ _ => 0))) 26)) (by omega) _)⟩
 rw [← hwo]
 clear hwo B0 B1 B2 B3 B4 hb
 obtain ⟨B0, B1, B2, B3, B4, B5, hb⟩ := hzQ
 obtain ⟨N1, hNN⟩ : ∃ n : Nat, n = W2.heap.size := ⟨_, rfl⟩
 rw [← hNN] at lt_B0 lt_B1 lt_B2 lt_B3 lt_B4 lhb B5 ⊢
 clear hNN
 have zN1_0 := lt_B0
 have zN1_1 := lt_B1
 have zN1_2 := lt_B2
 have zN1_3 := lt_B3
 have zN1_4 := lt_B4
 have zN1 := lhb
 clear lt_B0 lt_B1 lt_B2 lt_B3 lt_B4 lhb
 try simp only [Act.put, pA, pB, pC]
 go_upto_region 99 with (first | (refine zla (.tmp 6) B1 Try.underlying26 Try.size26 ?_) | (go_at_call 10; refine (l03Deg_any F0 _).mono ?_; rintro e W4 ⟨rfl, hW4⟩; replace B0 := B0.zw hW4; replace B1 := B1.zw hW4; replace B2 := B2.zw hW4; replace B3 := B3.zw hW4; replace B4 := B4.zw hW4; replace B5 := B5.zw hW4; replace hb := (hb).trans (hW4.mono (hb).size)))
 go_loopw [12] (fun c wr => ∃ (fu : Nat) (Q F : Nat → Nat → Nat), c = .int .i64 (skD F) ∧ Hid (gdU (fun F => dvA p m d F G) (fun F => dvF p m d F G) (skD G) fu Q F = gdU (fun F => dvA p m d F G) (fun F => dvF p m d F G) (skD G) 8 (fun _ _ => 0) F0 ∧ skD F < (fu : Int) ∧ rsk p m F) ∧ Below w.heap.size w wr ∧ Blk wr (w.heap.size) 64 24 m ∧ Blk wr (w.heap.size + 1) 512 26 (fl 64 F) ∧ Blk wr (w.heap.size + 1 + 1) 512 26 (fl 64 G) ∧ Blk wr (w.heap.size + 1 + 1 + 1) 512 26 (fl 64 (fun _ _ => 0)) ∧ Blk wr (w.heap.size + 1 + 1 + 1 + 1) 512 26 (fl 64 (fun _ _ => 0)) ∧ Blk wr (N1) 512 26 (fl 64 Q)) (fun c _ => (intOf c + 1).toNat)
 case atStart => exact ⟨8, _, _, rfl, Lib.hid ⟨rfl, HI0.out⟩, hb, B0, B1, B2, B3, B4, B5⟩
 case round =>
  clear hb B0 B1 B2 B3 B4 B5 HI0
  obtain ⟨fu, Q, F, rfl, hI, hb, B0, B1, B2, B3, B4, B5⟩ := hrel
  by_cases hge : (k : Int) ≤ skD F
  · obtain ⟨i1, i2, i4⟩ := hI.out
    obtain ⟨s1, s2, s3, s4, s5, s6⟩ := HS.out F i4 (by have := HK.out; omega)
    obtain ⟨fu, rfl⟩ : ∃ x, fu = x + 1 := ⟨fu - 1, by omega⟩
    obtain ⟨n, hn⟩ : ∃ n : Nat, skD F = (n : Int) := ⟨(skD F).toNat, by omega⟩
    obtain ⟨n8, fn⟩ := skN_row hn
    obtain ⟨q, hq⟩ : ∃ q : Nat, n - k = q := ⟨_, rfl⟩
    have q8 : q < 8 := by omega
    have hI2 := Lib.hid (show gdU (fun F => dvA p m d F G) (fun F => dvF p m d F G) (skD G) fu (updR Q q (dvA p m d F G)) (dvF p m d F G) = gdU (fun F => dvA p m d F G) (fun F => dvF p m d F G) (skD G) 8 (fun _ _ => 0) F0 ∧ skD (dvF p m d F G) < (fu : Int) ∧ rsk p m (dvF p m d F G) from ⟨by rw [← i1, gdU_step (by have := HK.out; omega), show (skD F).toNat - (skD G).toNat = q by have := HK.out; omega], by omega, s5⟩)
    have HK1 := Lib.hid (HMM.out F n q i4 hn hq)
    have HK2 := Lib.hid (HTE.out F n q hn hq q8)
    have HK3 := Lib.hid (HTI.out (dvT p m d F G) s4 (by have := HK.out; omega))
    have HK4 := Lib.hid (HAD.out F (tmP p m d (dvT p m d F G) G) i4 (HP.out _ _))
    have HK5 := Lib.hid (HFR.out q (by omega))
    have HK6 := Lib.hid (HIV.out (frN p m (G k) (q % d)) (HRF.out (q % d)))
    have hM := Lib.hid (show skD (dvF p m d F G) < (n : Int) from by omega)
    have HM0 := Lib.hid (show (-1 : Int) ≤ skD (dvF p m d F G) from (zsd _).1)
    rw [hn] at hge ⊢
    have hgeI : (n : Int) ≥ (k : Int) := hge
    have hqI : (n : Int) - (k : Int) = (q : Int) := by omega
    clear i1 i2 i4 s1 s2 s3 s4 s5 s6 hI hn fn hq
    go_upto_region 5 with (fail)
    have lt_B0 : (w.heap.size) < wr.heap.size := B0.lt
    have lt_B1 : (w.heap.size + 1) < wr.heap.size := B1.lt
    have lt_B2 : (w.heap.size + 1 + 1) < wr.heap.size := B2.lt
    have lt_B3 : (w.heap.size + 1 + 1 + 1) < wr.heap.size := B3.lt
    have lt_B4 : (w.heap.size + 1 + 1 + 1 + 1) < wr.heap.size := B4.lt
    have lt_B5 : (N1) < wr.heap.size := B5.lt
    refine zq Try.mixed (by kernel_rfl) (by kernel_rfl) (fun v => by (simp only [frL, Act.put, pA, pB, pC, Nat.reduceAdd, Nat.zero_add]; exact rfl))
     (fun L v W5 => Below wr.heap.size wr W5 ∧ (L 18 = true → AF (v 18) W5 wr.heap.size 64 24) ∧ (L 19 = true → PF (v 18) W5 wr.heap.size 64 24 (dvA p m d F G)) ∧ VF L v [some (.int .i64 (p : Int)), some (.int .i64 (n : Int)), some (.pointer (some ⟨w.heap.size + 1, n * 64, none⟩)), some (.agg (zb 64 (F n))), some (.int .i64 (p : Int)), some (.int .i64 (p : Int)), some (.int .i64 (k : Int)), some (.pointer (some ⟨w.heap.size + 1 + 1, k * 64, none⟩)), some (.agg (zb 64 (G k))), some (.int .i64 (n : Int)), some (.int .i64 (k : Int)), some (.int .i64 (q : Int)), some (.agg (zb 64 (m))), some (.agg (zb 64 (frN p m (G k) (q % d)))), some (.agg (zb 64 (m))), some (.agg (zb 64 (resP p (bzU p (frN p m (G k) (q % d)) m) m))), some (.agg (zb 64 (m))), some (.agg (zb 64 (dvA p m d F G))), none, none]) ?_ ?_ ?_
    · intro v hv0
      exact ⟨(Below.refl _ wr).drew, (fun h => by cases h), (fun h => by cases h), VF.start⟩
    · refine (.cons rfl ?_ (.cons rfl ?_ (.cons rfl ?_ (.cons rfl ?_ (.cons rfl ?_ (.cons rfl ?_ (.cons rfl ?_ (.cons rfl ?_ (.cons rfl ?_ (.cons rfl ?_ (.cons rfl ?_ (.cons rfl ?_ (.cons rfl ?_ (.cons rfl ?_ (.cons rfl ?_ (.cons rfl ?_ (.cons rfl ?_ (.cons rfl ?_ (.cons rfl ?_ (.cons rfl ?_ (.nil _)))))))))))))))))))))
      all_goals intro L v W5 hd hn ⟨hY, h18, h19, V⟩ K hK
      · go_wp2_with fail
        exact hK _ (.int .i64 (p : Int)) _ (by simp only [Act.put, pA, pB, pC ]) ⟨hY, h18, h19, V.step 0 rfl⟩
      · go_wp2_with fail
        exact hK _ (.int .i64 (n : Int)) _ (by simp only [Act.put, pA, pB, pC ]) ⟨hY, h18, h19, V.step 1 rfl⟩
      · have e1 := V.at (zdq hd 1 rfl) rfl
        go_wp2_with fail
        exact hK _ (.pointer (some ⟨w.heap.size + 1, n * 64, none⟩)) _ (by simp only [Act.put, pA, pB, pC, e1]) ⟨hY, h18, h19, V.step 2 rfl⟩
      · have e2 := V.at (zdq hd 2 rfl) rfl
        refine wp_load_mid 24 _ rfl _ (n * 64) e2 _ _ (((B1.zw hY)).sk (by omega)) Try.underlying24 rfl (by rw [zl]; exact Try.size24) ?_
        exact hK _ _ _ rfl ⟨hY, h18, h19, V.step 3 rfl⟩
      · go_wp2_with fail
        exact hK _ (.int .i64 (p : Int)) _ (by simp only [Act.put, pA, pB, pC ]) ⟨hY, h18, h19, V.step 4 rfl⟩
      · go_wp2_with fail
        exact hK _ (.int .i64 (p : Int)) _ (by simp only [Act.put, pA, pB, pC ]) ⟨hY, h18, h19, V.step 5 rfl⟩
      · go_wp2_with fail
        exact hK _ (.int .i64 (k : Int)) _ (by simp only [Act.put, pA, pB, pC ]) ⟨hY, h18, h19, V.step 6 rfl⟩
      · have e6 := V.at (zdq hd 6 rfl) rfl
        go_wp2_with fail
        exact hK _ (.pointer (some ⟨w.heap.size + 1 + 1, k * 64, none⟩)) _ (by simp only [Act.put, pA, pB, pC, e6]) ⟨hY, h18, h19, V.step 7 rfl⟩
      · have e7 := V.at (zdq hd 7 rfl) rfl
        refine wp_load_mid 24 _ rfl _ (k * 64) e7 _ _ (((B2.zw hY)).sk (by omega)) Try.underlying24 rfl (by rw [zl]; exact Try.size24) ?_
        exact hK _ _ _ rfl ⟨hY, h18, h19, V.step 8 rfl⟩
      · go_wp2_with fail
        exact hK _ (.int .i64 (n : Int)) _ (by simp only [Act.put, pA, pB, pC ]) ⟨hY, h18, h19, V.step 9 rfl⟩
      · go_wp2_with fail
        exact hK _ (.int .i64 (k : Int)) _ (by simp only [Act.put, pA, pB, pC ]) ⟨hY, h18, h19, V.step 10 rfl⟩
      · have e9 := V.at (zdq hd 9 rfl) rfl
        have e10 := V.at (zdq hd 10 rfl) rfl
        go_wp2_with fail
        exact hK _ (.int .i64 (q : Int)) _ (by simp only [Act.put, pA, pB, pC, e9, e10]) ⟨hY, h18, h19, V.step 11 rfl⟩
      · refine zlc (B0.zw hY) Try.underlying24 Try.size24 ?_
        exact hK _ _ _ rfl ⟨hY, h18, h19, V.step 12 rfl⟩
      · have e5 := V.at (zdq hd 5 rfl) rfl
        have e8 := V.at (zdq hd 8 rfl) rfl
        have e11 := V.at (zdq hd 11 rfl) rfl
        have e12 := V.at (zdq hd 12 rfl) rfl
        go_wp2_with (go_at_call 43; refine (HK5.out _).mono ?_; rintro e wy ⟨rfl, hy⟩)
        exact hK _ (.agg (zb 64 (frN p m (G k) (q % d)))) _ (by simp only [Act.put, pA, pB, pC, e5, e8, e11, e12]) ⟨hY.trans (hy.mono hY.size), (fun h => (h18 h).below hy), (fun h => (h19 h).below hy), V.step 13 rfl⟩
      · refine zlc (B0.zw hY) Try.underlying24 Try.size24 ?_
        exact hK _ _ _ rfl ⟨hY, h18, h19, V.step 14 rfl⟩
      · have e4 := V.at (zdq hd 4 rfl) rfl
        have e13 := V.at (zdq hd 13 rfl) rfl
        have e14 := V.at (zdq hd 14 rfl) rfl
        go_wp2_with (go_at_call 42; refine (HK6.out _).mono ?_; rintro e wy ⟨rfl, hy⟩)
        exact hK _ (.agg (zb 64 (resP p (bzU p (frN p m (G k) (q % d)) m) m))) _ (by simp only [Act.put, pA, pB, pC, e4, e13, e14]) ⟨hY.trans (hy.mono hY.size), (fun h => (h18 h).below hy), (fun h => (h19 h).below hy), V.step 15 rfl⟩
      · refine zlc (B0.zw hY) Try.underlying24 Try.size24 ?_
        exact hK _ _ _ rfl ⟨hY, h18, h19, V.step 16 rfl⟩
      · have e0 := V.at (zdq hd 0 rfl) rfl
        have e3 := V.at (zdq hd 3 rfl) rfl
        have e15 := V.at (zdq hd 15 rfl) rfl
        have e16 := V.at (zdq hd 16 rfl) rfl
        go_wp2_with (go_at_call 41; refine (HK1.out _).mono ?_; rintro e wy ⟨rfl, hy⟩)
        exact hK _ (.agg (zb 64 (dvA p m d F G))) _ (by simp only [Act.put, pA, pB, pC, e0, e3, e15, e16]) ⟨hY.trans (hy.mono hY.size), (fun h => (h18 h).below hy), (fun h => (h19 h).below hy), V.step 17 rfl⟩
      · go_wp2_with fail
        rw [← z64]
        exact hK _ (.pointer (some ⟨W5.heap.size, 0, none⟩)) _ (by simp only [Act.put, pA, pB, pC ]) ⟨hY.alloc hY.size _, (fun _ => (PF.new W5 64 24 _ hY.size).af), (fun h => absurd rfl (hn 19 _ rfl h ⟨18, .data⟩ (by simp) rfl)), V.skip 18 rfl⟩
      have e17 := V.at (zdq hd 17 rfl) rfl
      obtain ⟨gz, b, ea, hN, hk⟩ := (h18 (zdq hd 18 rfl)).out
      refine zsb 24 _ _ rfl b 64 (dvA p m d F G) ea e17 24 gz hk Try.size24 ?_
      exact hK _ undef _ rfl ⟨zr hY hN _, (fun h => (h18 h).row hk), (fun _ => by rw [show updV v 19 undef 18 = v 18 from rfl, ea]; exact PF.row hk hN _), V.skip 19 rfl⟩
    intro L v W5 hL ⟨hY, h18, h19, V⟩
    obtain ⟨k5_18, e18, hNk5_18, hk5_18⟩ := (h19 (hL 19 (by decide))).out
    have e0 := V.at (hL 0 (by decide)) rfl
    have e1 := V.at (hL 1 (by decide)) rfl
    have e2 := V.at (hL 2 (by decide)) rfl
    have e3 := V.at (hL 3 (by decide)) rfl
    have e4 := V.at (hL 4 (by decide)) rfl
    have e5 := V.at (hL 5 (by decide)) rfl
    have e6 := V.at (hL 6 (by decide)) rfl
    have e7 := V.at (hL 7 (by decide)) rfl
    have e8 := V.at (hL 8 (by decide)) rfl
    have e9 := V.at (hL 9 (by decide)) rfl
    have e10 := V.at (hL 10 (by decide)) rfl
    have e11 := V.at (hL 11 (by decide)) rfl
    have e12 := V.at (hL 12 (by decide)) rfl
    have e13 := V.at (hL 13 (by decide)) rfl
    have e14 := V.at (hL 14 (by decide)) rfl
    have e15 := V.at (hL 15 (by decide)) rfl
    have e16 := V.at (hL 16 (by decide)) rfl
    have e17 := V.at (hL 17 (by decide)) rfl
    clear hL h18 h19 V
    replace B0 := B0.zw hY
    replace B1 := B1.zw hY
    replace B2 := B2.zw hY
    replace B3 := B3.zw hY
    replace B4 := B4.zw hY
    replace B5 := B5.zw hY
    replace hb := hb.trans (hY.mono hb.size)
    clear hY
    simp only [Exit.then, e18, e0, e1, e2, e3, e4, e5, e6, e7, e8, e9, e10, e11, e12, e13, e14, e15, e16, e17]
    clear e18 e0 e1 e2 e3 e4 e5 e6 e7 e8 e9 e10 e11 e12 e13 e14 e15 e16 e17
    have B6 := hk5_18
    clear hk5_18
    have zk5_18_0 : w.heap.size < k5_18 := by omega
    have zk5_18_1 : w.heap.size + 1 < k5_18 := by omega
    have zk5_18_2 : w.heap.size + 1 + 1 < k5_18 := by omega
    have zk5_18_3 : w.heap.size + 1 + 1 + 1 < k5_18 := by omega
    have zk5_18_4 : w.heap.size + 1 + 1 + 1 + 1 < k5_18 := by omega
    have zk5_18_5 : N1 < k5_18 := by omega
    clear lt_B0 lt_B1 lt_B2 lt_B3 lt_B4 lt_B5
    go_upto_region 6 with (fail)
    have lt_B0 := B0.lt
    have lt_B1 := B1.lt
    have lt_B2 := B2.lt
    have lt_B3 := B3.lt
    have lt_B4 := B4.lt
    have lt_B5 := B5.lt
    have lt_B6 := B6.lt
    go_upto_region 7 with (first | rw [← z64] | (refine zla (.tmp 13) B6 Try.underlying24 Try.size24 ?_) | (refine zss rfl 24 (.tmp 48) (.tmp 47) rfl _ (q) (dvA p m d F G) rfl rfl 26 _ (B5) (by omega) Try.size24 ?_; try simp only [Act.put]))
    obtain ⟨W6, hwo, hzQ⟩ : ∃ v : World, v = (W5.setRow (N1) (zb 512 (fl 64 (updR Q q (dvA p m d F G))))) ∧ Blk v (w.heap.size) 64 24 (m) ∧ Blk v (w.heap.size + 1) 512 26 (fl 64 F) ∧ Blk v (w.heap.size + 1 + 1) 512 26 (fl 64 G) ∧ Blk v (w.heap.size + 1 + 1 + 1) 512 26 (fl 64 (fun _ _ => 0)) ∧ Blk v (w.heap.size + 1 + 1 + 1 + 1) 512 26 (fl 64 (fun _ _ => 0)) ∧ Blk v (N1) 512 26 (fl 64 (updR Q q (dvA p m d F G))) ∧ Blk v (k5_18) 64 24 (dvA p m d F G) ∧ Below w.heap.size w v := ⟨_, rfl, (B0.rowOther (by omega)), (B1.rowOther (by omega)), (B2.rowOther (by omega)), (B3.rowOther (by omega)), (B4.rowOther (by omega)), (B5.row (fl 64 (updR Q q (dvA p m d F G)))), (B6.rowOther (by omega)), (zr hb (by omega) _)⟩
    rw [← hwo]
    clear hwo B0 B1 B2 B3 B4 B5 B6 hb
    obtain ⟨B0, B1, B2, B3, B4, B5, B6, hb⟩ := hzQ
    try simp only [Act.put, pA, pB, pC]
    have lt_B0 : (w.heap.size) < W6.heap.size := B0.lt
    have lt_B1 : (w.heap.size + 1) < W6.heap.size := B1.lt
    have lt_B2 : (w.heap.size + 1 + 1) < W6.heap.size := B2.lt
    have lt_B3 : (w.heap.size + 1 + 1 + 1) < W6.heap.size := B3.lt
    have lt_B4 : (w.heap.size + 1 + 1 + 1 + 1) < W6.heap.size := B4.lt
    have lt_B5 : (N1) < W6.heap.size := B5.lt
    have lt_B6 : (k5_18) < W6.heap.size := B6.lt
    refine zq Try.mixed (by kernel_rfl) (by kernel_rfl) (fun v => by (simp only [frL, Act.put, pA, pB, pC, Nat.reduceAdd, Nat.zero_add]; exact rfl))
     (fun L v W7 => Below W6.heap.size W6 W7 ∧ (L 12 = true → AF (v 12) W7 W6.heap.size 512 26) ∧ (L 13 = true → PF (v 12) W7 W6.heap.size 512 26 (fl 64 (tmP p m d (dvT p m d F G) G))) ∧ VF L v [some (.int .i64 (p : Int)), some (.agg (zb 64 (m))), some (.agg (zb 64 (dvA p m d F G))), some (.int .i64 (n : Int)), some (.int .i64 (k : Int)), some (.int .i64 (q : Int)), some (.agg (zb 512 (fl 64 (dvT p m d F G)))), some (.agg (zb 512 (fl 64 G))), some (.tuple #[(.agg (zb 512 (fl 64 (tmP p m d (dvT p m d F G) G)))), (.bool true)]), some (.tuple #[(.agg (zb 512 (fl 64 (tmP p m d (dvT p m d F G) G)))), (.bool true)]), some (.agg (zb 512 (fl 64 (tmP p m d (dvT p m d F G) G)))), some (.bool true), none, none, some (.bool true)]) ?_ ?_ ?_
    · intro v hv0
      exact ⟨(Below.refl _ W6).drew, (fun h => by cases h), (fun h => by cases h), VF.start⟩
    · refine (.cons rfl ?_ (.cons rfl ?_ (.cons rfl ?_ (.cons rfl ?_ (.cons rfl ?_ (.cons rfl ?_ (.cons rfl ?_ (.cons rfl ?_ (.cons rfl ?_ (.cons rfl ?_ (.cons rfl ?_ (.cons rfl ?_ (.cons rfl ?_ (.cons rfl ?_ (.cons rfl ?_ (.nil _))))))))))))))))
      all_goals intro L v W7 hd hn ⟨hY, h12, h13, V⟩ K hK
      · go_wp2_with fail
        exact hK _ (.int .i64 (p : Int)) _ (by simp only [Act.put, pA, pB, pC ]) ⟨hY, h12, h13, V.step 0 rfl⟩
      · refine zlc (B0.zw hY) Try.underlying24 Try.size24 ?_
        exact hK _ _ _ rfl ⟨hY, h12, h13, V.step 1 rfl⟩
      · refine zlc (B6.zw hY) Try.underlying24 Try.size24 ?_
        exact hK _ _ _ rfl ⟨hY, h12, h13, V.step 2 rfl⟩
      · go_wp2_with fail
        exact hK _ (.int .i64 (n : Int)) _ (by simp only [Act.put, pA, pB, pC ]) ⟨hY, h12, h13, V.step 3 rfl⟩
      · go_wp2_with fail
        exact hK _ (.int .i64 (k : Int)) _ (by simp only [Act.put, pA, pB, pC ]) ⟨hY, h12, h13, V.step 4 rfl⟩
      · have e3 := V.at (zdq hd 3 rfl) rfl
        have e4 := V.at (zdq hd 4 rfl) rfl
        go_wp2_with fail
        exact hK _ (.int .i64 (q : Int)) _ (by simp only [Act.put, pA, pB, pC, e3, e4]) ⟨hY, h12, h13, V.step 5 rfl⟩
      · have e2 := V.at (zdq hd 2 rfl) rfl
        have e5 := V.at (zdq hd 5 rfl) rfl
        go_wp2_with (go_at_call 44; refine (HK2.out _).mono ?_; rintro e wy ⟨rfl, hy⟩)
        exact hK _ (.agg (zb 512 (fl 64 (dvT p m d F G)))) _ (by simp only [Act.put, pA, pB, pC, e2, e5]) ⟨hY.trans (hy.mono hY.size), (fun h => (h12 h).below hy), (fun h => (h13 h).below hy), V.step 6 rfl⟩
      · refine zlc (B2.zw hY) Try.underlying26 Try.size26 ?_
        exact hK _ _ _ rfl ⟨hY, h12, h13, V.step 7 rfl⟩
      · have e0 := V.at (zdq hd 0 rfl) rfl
        have e1 := V.at (zdq hd 1 rfl) rfl
        have e6 := V.at (zdq hd 6 rfl) rfl
        have e7 := V.at (zdq hd 7 rfl) rfl
        go_wp2_with (go_at_call 23; refine (HK3.out _).mono ?_; rintro e wy ⟨rfl, hy⟩)
        exact hK _ (.tuple #[(.agg (zb 512 (fl 64 (tmP p m d (dvT p m d F G) G)))), (.bool true)]) _ (by simp only [Act.put, pA, pB, pC, e0, e1, e6, e7]) ⟨hY.trans (hy.mono hY.size), (fun h => (h12 h).below hy), (fun h => (h13 h).below hy), V.step 8 rfl⟩
      · have e8 := V.at (zdq hd 8 rfl) rfl
        go_wp2_with fail
        exact hK _ (.tuple #[(.agg (zb 512 (fl 64 (tmP p m d (dvT p m d F G) G)))), (.bool true)]) _ (by simp only [Act.put, pA, pB, pC, e8]) ⟨hY, h12, h13, V.step 9 rfl⟩
      · have e9 := V.at (zdq hd 9 rfl) rfl
        go_wp2_with fail
        exact hK _ (.agg (zb 512 (fl 64 (tmP p m d (dvT p m d F G) G)))) _ (by simp only [Act.put, pA, pB, pC, e9]) ⟨hY, h12, h13, V.step 10 rfl⟩
      · have e9 := V.at (zdq hd 9 rfl) rfl
        go_wp2_with fail
        exact hK _ (.bool true) _ (by simp only [Act.put, pA, pB, pC, e9]) ⟨hY, h12, h13, V.step 11 rfl⟩
      · go_wp2_with fail
        rw [← zero512]
        exact hK _ (.pointer (some ⟨W7.heap.size, 0, none⟩)) _ (by simp only [Act.put, pA, pB, pC ]) ⟨hY.alloc hY.size _, (fun _ => (PF.new W7 512 26 _ hY.size).af), (fun h => absurd rfl (hn 13 _ rfl h ⟨12, .data⟩ (by simp) rfl)), V.skip 12 rfl⟩
      · have e10 := V.at (zdq hd 10 rfl) rfl
        obtain ⟨gz, b, ea, hN, hk⟩ := (h12 (zdq hd 12 rfl)).out
        refine zsb 26 _ _ rfl b 512 (fl 64 (tmP p m d (dvT p m d F G) G)) ea e10 26 gz hk Try.size26 ?_
        exact hK _ undef _ rfl ⟨zr hY hN _, (fun h => (h12 h).row hk), (fun _ => by rw [show updV v 13 undef 12 = v 12 from rfl, ea]; exact PF.row hk hN _), V.skip 13 rfl⟩
      have e11 := V.at (zdq hd 11 rfl) rfl
      go_wp2_with fail
      exact hK _ (.bool true) _ (by simp only [Act.put, pA, pB, pC, e11]) ⟨hY, h12, h13, V.step 14 rfl⟩
    intro L v W7 hL ⟨hY, h12, h13, V⟩
    obtain ⟨k7_12, e12, hNk7_12, hk7_12⟩ := (h13 (hL 13 (by decide))).out
    have e0 := V.at (hL 0 (by decide)) rfl
    have e1 := V.at (hL 1 (by decide)) rfl
    have e2 := V.at (hL 2 (by decide)) rfl
    have e3 := V.at (hL 3 (by decide)) rfl
    have e4 := V.at (hL 4 (by decide)) rfl
    have e5 := V.at (hL 5 (by decide)) rfl
    have e6 := V.at (hL 6 (by decide)) rfl
    have e7 := V.at (hL 7 (by decide)) rfl
    have e8 := V.at (hL 8 (by decide)) rfl
    have e9 := V.at (hL 9 (by decide)) rfl
    have e10 := V.at (hL 10 (by decide)) rfl
    have e11 := V.at (hL 11 (by decide)) rfl
    have e14 := V.at (hL 14 (by decide)) rfl
    clear hL h12 h13 V
    replace B0 := B0.zw hY
    replace B1 := B1.zw hY
    replace B2 := B2.zw hY
    replace B3 := B3.zw hY
    replace B4 := B4.zw hY
    replace B5 := B5.zw hY
    replace B6 := B6.zw hY
    replace hb := hb.trans (hY.mono hb.size)
    clear hY
    simp only [Exit.then, e12, e0, e1, e2, e3, e4, e5, e6, e7, e8, e9, e10, e11, e14]
    clear e12 e0 e1 e2 e3 e4 e5 e6 e7 e8 e9 e10 e11 e14
    have B7 := hk7_12
    clear hk7_12
    have zk7_12_0 : w.heap.size < k7_12 := by omega
    have zk7_12_1 : w.heap.size + 1 < k7_12 := by omega
    have zk7_12_2 : w.heap.size + 1 + 1 < k7_12 := by omega
    have zk7_12_3 : w.heap.size + 1 + 1 + 1 < k7_12 := by omega
    have zk7_12_4 : w.heap.size + 1 + 1 + 1 + 1 < k7_12 := by omega
    have zk7_12_5 : N1 < k7_12 := by omega
    have zk7_12_6 : k5_18 < k7_12 := by omega
    clear lt_B0 lt_B1 lt_B2 lt_B3 lt_B4 lt_B5 lt_B6
    go_upto_region 8 with (fail)
    have lt_B0 := B0.lt
    have lt_B1 := B1.lt
    have lt_B2 := B2.lt
    have lt_B3 := B3.lt
    have lt_B4 := B4.lt
    have lt_B5 := B5.lt
    have lt_B6 := B6.lt
    have lt_B7 := B7.lt
    go_upto_region 4 with (first | rw [← z64] | rw [← zero512] | (refine zla (.tmp 6) B1 Try.underlying26 Try.size26 ?_) | (refine zla (.tmp 14) B7 Try.underlying26 Try.size26 ?_) | (go_at_call 24; refine (HK4.out _).mono ?_; rintro e W8 ⟨rfl, hW8⟩; replace B0 := B0.zw hW8; replace B1 := B1.zw hW8; replace B2 := B2.zw hW8; replace B3 := B3.zw hW8; replace B4 := B4.zw hW8; replace B5 := B5.zw hW8; replace B6 := B6.zw hW8; replace B7 := B7.zw hW8; replace hb := (hb).trans (hW8.mono (hb).size)) | (refine zsr (.tmp 6) (.tmp 64) (fl 64 (skA p F (tmP p m d (dvT p m d F G) G) (-1))) B1 Try.size26 ?_; try simp only [Act.put]))
    obtain ⟨W9, hwo, hzQ⟩ : ∃ v : World, v = (W8.setRow (w.heap.size + 1) (zb 512 (fl 64 (skA p F (tmP p m d (dvT p m d F G) G) (-1))))) ∧ Blk v (w.heap.size) 64 24 (m) ∧ Blk v (w.heap.size + 1) 512 26 (fl 64 (skA p F (tmP p m d (dvT p m d F G) G) (-1))) ∧ Blk v (w.heap.size + 1 + 1) 512 26 (fl 64 G) ∧ Blk v (w.heap.size + 1 + 1 + 1) 512 26 (fl 64 (fun _ _ => 0)) ∧ Blk v (w.heap.size + 1 + 1 + 1 + 1) 512 26 (fl 64 (fun _ _ => 0)) ∧ Blk v (N1) 512 26 (fl 64 (updR Q q (dvA p m d F G))) ∧ Blk v (k5_18) 64 24 (dvA p m d F G) ∧ Blk v (k7_12) 512 26 (fl 64 (tmP p m d (dvT p m d F G) G)) ∧ Below w.heap.size w v := ⟨_, rfl, (B0.rowOther (by omega)), (B1.row (fl 64 (skA p F (tmP p m d (dvT p m d F G) G) (-1)))), (B2.rowOther (by omega)), (B3.rowOther (by omega)), (B4.rowOther (by omega)), (B5.rowOther (by omega)), (B6.rowOther (by omega)), (B7.rowOther (by omega)), (zr hb (by omega) _)⟩
    rw [← hwo]
    clear hwo B0 B1 B2 B3 B4 B5 B6 B7 hb
    obtain ⟨B0, B1, B2, B3, B4, B5, B6, B7, hb⟩ := hzQ
    try simp only [Act.put, pA, pB, pC]
    go_wp2_with (first | (refine zla (.tmp 6) B1 Try.underlying26 Try.size26 ?_) | (go_at_call 10; refine (l03Deg_any (skA p F (tmP p m d (dvT p m d F G) G) (-1)) _).mono ?_; rintro e W10 ⟨rfl, hW10⟩; replace B0 := B0.zw hW10; replace B1 := B1.zw hW10; replace B2 := B2.zw hW10; replace B3 := B3.zw hW10; replace B4 := B4.zw hW10; replace B5 := B5.zw hW10; replace B6 := B6.zw hW10; replace B7 := B7.zw hW10; replace hb := (hb).trans (hW10.mono (hb).size)))
    go_roundw
    case rel => exact ⟨fu, _, _, rfl, hI2, hb, B0, B1, B2, B3, B4, B5⟩
    case measure => have h1 : skD (skA p F (tmP p m d (dvT p m d F G) G) (-1)) < (n : Int) := hM.out; have h2 : (-1 : Int) ≤ skD (skA p F (tmP p m d (dvT p m d F G) G) (-1)) := HM0.out; simp only [intOf]; omega
  have hgeI : ¬ (skD F ≥ (k : Int)) := hge
  have HV := Lib.hid (show (Q, F) = gdU (fun F => dvA p m d F G) (fun F => dvF p m d F G) (skD G) 8 (fun _ _ => 0) F0 by rw [← hI.out.1, gdU_stop (by have := HK.out; omega)])
  have HV1 := Lib.hid (show zb 512 (fl 64 Q) = zb 512 (fl 64 (dq p m d F0 G).1) by rw [← HE.out.1, ← HV.out])
  have HV2 := Lib.hid (show F = (dq p m d F0 G).2 by rw [← HE.out.2, ← HV.out])
  go_upto_region 9 with (fail)
  have lt_B0 : (w.heap.size) < wr.heap.size := B0.lt
  have lt_B1 : (w.heap.size + 1) < wr.heap.size := B1.lt
  have lt_B2 : (w.heap.size + 1 + 1) < wr.heap.size := B2.lt
  have lt_B3 : (w.heap.size + 1 + 1 + 1) < wr.heap.size := B3.lt
  have lt_B4 : (w.heap.size + 1 + 1 + 1 + 1) < wr.heap.size := B4.lt
  have lt_B5 : (N1) < wr.heap.size := B5.lt
  have hbase : w.heap.size ≤ wr.heap.size := hb.size
  refine zq Try.mixed (by kernel_rfl) (by kernel_rfl) (fun v => by (simp only [frL, Act.put, pA, pB, pC, Nat.reduceAdd, Nat.zero_add]; exact rfl))
   (fun L v W5 => Below w.heap.size w W5 ∧ Kx [w.heap.size + 1 + 1 + 1, w.heap.size + 1 + 1 + 1 + 1] wr W5 ∧ (∃ g, Blk W5 (w.heap.size + 1 + 1 + 1) 512 26 (g)) ∧ (L 2 = false → Blk W5 (w.heap.size + 1 + 1 + 1) 512 26 (fl 64 (fun _ _ => 0))) ∧ (L 2 = true → Blk W5 (w.heap.size + 1 + 1 + 1) 512 26 (fl 64 Q)) ∧ (∃ g, Blk W5 (w.heap.size + 1 + 1 + 1 + 1) 512 26 (g)) ∧ (L 3 = false → Blk W5 (w.heap.size + 1 + 1 + 1 + 1) 512 26 (fl 64 (fun _ _ => 0))) ∧ (L 3 = true → Blk W5 (w.heap.size + 1 + 1 + 1 + 1) 512 26 (fl 64 F)) ∧ VF L v [some (.agg (zb 512 (fl 64 Q))), some (.agg (zb 512 (fl 64 F))), none, none]) ?_ ?_ ?_
  · intro v hv0
    exact ⟨hb.drew, Kx.start _ _, ⟨_, B3.drew⟩, (fun _ => B3.drew), (fun h => by cases h), ⟨_, B4.drew⟩, (fun _ => B4.drew), (fun h => by cases h), VF.start⟩
  · refine (.cons rfl ?_ (.cons rfl ?_ (.cons rfl ?_ (.cons rfl ?_ (.nil _)))))
    all_goals intro L v W5 hd hn ⟨hB, hX, x3, q3, n3, x4, q4, n4, V⟩ K hK
    · refine wp_load_any 26 _ rfl _ rfl 512 26 _ (B5.kx hX (by simp <;> omega)) _ Try.underlying26 rfl Try.size26 ?_
      exact hK _ _ _ rfl ⟨hB, hX, x3, q3, n3, x4, q4, n4, V.step 0 rfl⟩
    · refine wp_load_any 26 _ rfl _ rfl 512 26 _ (B1.kx hX (by simp <;> omega)) _ Try.underlying26 rfl Try.size26 ?_
      exact hK _ _ _ rfl ⟨hB, hX, x3, q3, n3, x4, q4, n4, V.step 1 rfl⟩
    · have e0 := V.at (zdq hd 0 rfl) rfl
      obtain ⟨gz, hk⟩ := x3
      refine zsb 26 _ _ rfl _ 512 (fl 64 Q) rfl e0 26 gz hk Try.size26 ?_
      exact hK _ undef _ rfl ⟨zr hB (by omega) _, hX.row (by simp) _, ⟨_, hk.row _⟩, (fun h => absurd h (by simp [setL])), (fun _ => hk.row _), (let ⟨g, h⟩ := x4; ⟨g, (h).rowOther (by omega)⟩), (fun h => (q4 h).rowOther (by omega)), (fun h => (n4 h).rowOther (by omega)), V.skip 2 rfl⟩
    have e1 := V.at (zdq hd 1 rfl) rfl
    obtain ⟨gz, hk⟩ := x4
    refine zsb 26 _ _ rfl _ 512 (fl 64 F) rfl e1 26 gz hk Try.size26 ?_
    exact hK _ undef _ rfl ⟨zr hB (by omega) _, hX.row (by simp) _, (let ⟨g, h⟩ := x3; ⟨g, (h).rowOther (by omega)⟩), (fun h => (q3 h).rowOther (by omega)), (fun h => (n3 h).rowOther (by omega)), ⟨_, hk.row _⟩, (fun h => absurd h (by simp [setL])), (fun _ => hk.row _), V.skip 3 rfl⟩
  intro L v W5 hL ⟨hB, hX, x3, q3, n3, x4, q4, n4, V⟩
  have r3 := n3 (hL 2 (by decide))
  have r4 := n4 (hL 3 (by decide))
  have e0 := V.at (hL 0 (by decide)) rfl
  have e1 := V.at (hL 1 (by decide)) rfl
  clear hL x3 q3 n3 x4 q4 n4 V
  replace B0 := B0.kx hX (by simp <;> omega)
  replace B1 := B1.kx hX (by simp <;> omega)
  replace B2 := B2.kx hX (by simp <;> omega)
  replace B5 := B5.kx hX (by simp <;> omega)
  clear hX
  simp only [Exit.then, e0, e1]
  clear e0 e1
  replace B3 := r3
  clear r3
  replace B4 := r4
  clear r4
  replace hb := hB
  clear hB
  clear hbase lt_B0 lt_B1 lt_B2 lt_B3 lt_B4 lt_B5
  go_wp2_with fail
  refine bodyPost_ret (results_any2 rfl _ _ _ 512 _ _ _ 512 _ _ rfl B3 _ Try.underlying26 rfl Try.size26 rfl B4 _ Try.underlying26 rfl Try.size26) rfl ⟨by rw [HV1.out, ← HV2.out], hb⟩
end Go.Proofs.Ytoncepgcfifgbab
namespace Go.Proofs.Ytoncepgcfifgbab
open Go Go.RowKit
attribute [local irreducible] deg addK okA flV skA skD
theorem ckS_rsk {n : Nat} {m : Nat → Nat} {Fs : List (Nat → Nat → Nat)} {F : Nat → Nat → Nat} (hl : ∀ F, F ∈ Fs → ∀ i, i < 8 → (∀ j, j < 64 → F i j < n) ∧ deg (F i) < deg m) (h : F ∈ Fs) : rsk n m F := fun i hi => hl F h i hi
end Go.Proofs.Ytoncepgcfifgbab
namespace Go.Proofs.Ytoncepgcfifgbab
open Go Go.RowKit
def c2s (F G : Nat → Nat → Nat) : Nat → Nat := fun k => if k < 512 then fl 64 F k else fl 64 G (k - 512)
theorem c2s_0 (F G : Nat → Nat → Nat) : ∀ k, k < 512 → c2s F G (0 + k) = fl 64 F k := by intro k hk; unfold c2s; rw [Nat.zero_add, if_pos hk]
theorem c2s_1 (F G : Nat → Nat → Nat) : ∀ k, k < 512 → c2s F G (512 + k) = fl 64 G k := by intro k hk; unfold c2s; rw [if_neg (by omega), show 512 + k - 512 = k by omega]
theorem Try.size55 : (Try.prog.info? 55).map (·.size) = some 1024 := by kernel_rfl
theorem zero1024 : zb 1024 (fun _ => 0) = Try.zeroCells55 := by simp only [zb, bl]; kernel_rfl
theorem built_sk0 (a : Nat → Nat) : Try.prog.built 26 [(0, .agg (zb 64 a))] = some (zb 512 (fl 64 (sng 0 a))) := by
 unfold zb bl; kernel_rfl
theorem zero_row : ((Try.prog.info? 55).bind fun it => it.zero.map (·.cells)) = some (zb 1024 (fun _ => 0)) := by unfold zb bl; kernel_rfl
theorem places_row : (match Try.prog.underlying 55 with | some (.struct fields) => fields.toList.mapM (fun f => (Try.prog.info? f.type).map fun i => (f.offset, i.size)) | _ => none) = some [(0, 512), (512, 512)] := by kernel_rfl
theorem built_row (parts : List (Nat × Value)) : Try.prog.built 55 parts = Instr.fill ([(0, 512), (512, 512)].toArray[·]?) (zb 1024 (fun _ => 0)) parts := by
 have hz := zero_row
 have hp := places_row
 unfold Program.built
 cases hi : Try.prog.info? 55 with
 | none => rw [hi] at hz; cases hz
 | some it =>
  rw [hi] at hz
  cases hzz : it.zero with
  | none => simp [hzz] at hz
  | some z =>
   have hz2 : z.cells = zb 1024 (fun _ => 0) := by simpa [hzz] using hz
   cases hu : Try.prog.underlying 55 with
   | none => rw [hu] at hp; cases hp
   | some d =>
    rw [hu] at hp
    cases d with
    | struct fields =>
     simp only at hp ⊢
     rw [hzz, hp]
     show Instr.fill _ z.cells parts = _
     rw [hz2]
    | _ => cases hp
theorem fill_at (vs : List (Nat × Value)) (h : ∀ x, x ∈ vs → x.1 < 2) : ∀ cells : Array Value, Instr.fill ([(0, 512), (512, 512)].toArray[·]?) cells vs = Instr.fill (fun i => some (i * 512, 512)) cells vs := by
 induction vs with
 | nil => intro cells; rfl
 | cons x vs ih =>
  intro cells
  obtain ⟨i, v⟩ := x
  have hi : i < 2 := h (i, v) List.mem_cons_self
  have e : ([(0, 512), (512, 512)].toArray[i]?) = some (i * 512, 512) := by
   rcases (show i = 0 ∨ i = 1 by omega) with rfl | rfl <;> rfl
  unfold Instr.fill
  simp only [e]
  split
  · rfl
  exact ih (fun y hy => h y (List.mem_cons_of_mem _ hy)) _
theorem built_sr1 (F U : Nat → Nat → Nat) : Try.prog.built 55 [(0, .agg (zb 512 (fl 64 F))), (1, .agg (zb 512 (fl 64 U)))] = some (zb 1024 (c2s F U)) := by
 rw [built_row, fill_at _ (by simp)]
 obtain ⟨r, hr, hsz, hk⟩ := Go.Great.fill_dense (s := 512) (by omega) [.agg (zb 512 (fl 64 F)), .agg (zb 512 (fl 64 U))] 0 (zb 1024 (fun _ => 0))
  (fun v hv => by rcases List.mem_cons.1 hv with rfl | hv
                  · exact zbs _ _
                  rcases List.mem_cons.1 hv with rfl | hv
                  · exact zbs _ _
                  cases hv) (by rw [zbs]; simp)
 refine Eq.trans hr (congrArg some ?_)
 apply Array.ext_getElem?
 intro k
 rw [hk k]
 by_cases h1 : k < 512
 · rw [if_pos (by simp; omega), show k / 512 - 0 = 0 by omega, show k % 512 = k by omega, bcells_get (show k < 1024 by omega)]
   have := c2s_0 F U k h1
   rw [Nat.zero_add] at this
   rw [this]
   exact bcells_get h1
 by_cases h2 : k < 1024
 · rw [if_pos (by simp; omega), show k / 512 - 0 = 1 by omega, bcells_get h2]
   have := c2s_1 F U (k - 512) (by omega)
   rw [show 512 + (k - 512) = k by omega] at this
   rw [this, show k % 512 = k - 512 by omega]
   exact bcells_get (show k - 512 < 512 by omega)
 rw [if_neg (by simp; omega), Array.getElem?_eq_none (by rw [zbs]; omega), Array.getElem?_eq_none (by rw [zbs]; omega)]
theorem built_sr0 (F : Nat → Nat → Nat) : Try.prog.built 55 [(0, .agg (zb 512 (fl 64 F)))] = some (zb 1024 (c2s F (fun _ _ => 0))) := by
 rw [built_row, fill_at _ (by simp)]
 obtain ⟨r, hr, hsz, hk⟩ := Go.Great.fill_dense (s := 512) (by omega) [.agg (zb 512 (fl 64 F))] 0 (zb 1024 (fun _ => 0))
  (fun v hv => by rcases List.mem_cons.1 hv with rfl | hv
                  · exact zbs _ _
                  cases hv) (by rw [zbs]; simp)
 refine Eq.trans hr (congrArg some ?_)
 apply Array.ext_getElem?
 intro k
 rw [hk k]
 by_cases h1 : k < 512
 · rw [if_pos (by simp; omega), show k / 512 - 0 = 0 by omega, show k % 512 = k by omega, bcells_get (show k < 1024 by omega)]
   have := c2s_0 F (fun _ _ => 0) k h1
   rw [Nat.zero_add] at this
   rw [this]
   exact bcells_get h1
 rw [if_neg (by simp; omega)]
 by_cases h2 : k < 1024
 · rw [bcells_get h2, bcells_get h2]
   have := c2s_1 F (fun _ _ => 0) (k - 512) (by omega)
   rw [show 512 + (k - 512) = k by omega] at this
   rw [this, fl_zero]
 rw [Array.getElem?_eq_none (by rw [zbs]; omega), Array.getElem?_eq_none (by rw [zbs]; omega)]
theorem skAt_c2s {w : World} {b : Nat} {t : TypeId} {F G : Nat → Nat → Nat} (h : Blk w b 1024 t (c2s F G)) : skAt w b = (skD F + 1).toNat := by
 unfold skAt
 have e : w.heap[b]? = some (.cells (zb 1024 (c2s F G)) t (0, 0)) := by unfold Blk at h; exact h
 rw [e]
 simp only
 rw [skD_congr (G := F) (fun i hi j hj => by
  rw [bcells_get (f := c2s F G) (show i * 64 + j < 1024 by omega)]
  have h1 := c2s_0 F G (i * 64 + j) (by omega)
  rw [Nat.zero_add, fl_at hj] at h1
  rw [h1]; simp)]
end Go.Proofs.Ytoncepgcfifgbab
