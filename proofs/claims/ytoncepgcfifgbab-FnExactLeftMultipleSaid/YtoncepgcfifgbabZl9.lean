/-
  What the rows of this claim rest on: arrays of bytes, walks of the functions, plain mathematics.
-/
import Derived.Test.YtoncepgcfifgbabZl8
set_option maxRecDepth 100000
set_option maxHeartbeats 9000000
set_option linter.unusedVariables false
set_option linter.unusedSimpArgs false
namespace Go.Proofs.Ytoncepgcfifgbab
open Go Go.RowKit
attribute [local irreducible] deg addK strP frI frN mmP pmP resP bzU bzD bzW skA skD sng oneP
theorem monic_any (p : Nat) (m : Nat → Nat) (F : Nat → Nat → Nat) (w : World) (hpr : p = 2 ∨ p = 3 ∨ p = 5 ∨ p = 7) (lm : ∀ k, k < 64 → m k < p) (d : Nat) (hmon : mon m d) (hi : irr p (cut m) d) (hd9 : d ≤ 9) (hF : rsk p m F) (hF0 : 0 ≤ skD F) :
 Calls Try.prog 16 #[.agg (zb 512 (fl 64 F)), .agg (fdC (p : Int) m).toArray] w fun e w' => e = .returned (.agg (zb 512 (fl 64 (moS p m F)))) ∧ Below w.heap.size w w' := by
 have p0 : 0 < p := by omega
 have hd := hmon.1
 have hd1 := hi.1
 have h0 : 0 ≤ deg m := by omega
 have h9 : deg m ≤ 9 := by omega
 obtain ⟨n, hn⟩ : ∃ n : Nat, skD F = (n : Int) := ⟨(skD F).toNat, by omega⟩
 obtain ⟨n8, fn⟩ := skN_row hn
 have r1 := one_rsd hpr lm hmon hi hd9
 have HLF := Lib.hid (fun W => leading_any F n hn W)
 have HQ := Lib.hid (fun W => quotient_any p m oneP (F n) W hpr lm h0 r1.1 (hF n n8).1)
 have hc0 := mo_ne hpr lm hmon hi hd9 (hF n n8) fn
 have hrs : rsk p m (sng 0 (mmP p oneP (bzU p (F n) m) m)) := sng_rsk hpr lm hmon hi hd9 0 (mm_rsd hpr lm h0)
 have hsd := sng_deg (i := 0) (by omega) hc0
 have hmo := moS_eq hpr lm hmon hi hd9 hF hF0
 rw [hn, show (n : Int).toNat = n from rfl] at hmo
 have HTM := Lib.hid (show ∀ W, Calls Try.prog 15 #[.agg (zb 512 (fl 64 (sng 0 (mmP p oneP (bzU p (F n) m) m)))), .agg (fdC (p : Int) m).toArray, .agg (zb 512 (fl 64 F))] W fun e w' => e = .returned (.agg (zb 512 (fl 64 (moS p m F)))) ∧ Below W.heap.size W w' from fun W => by
  have h := skTimes_any p m _ F W hpr lm d hd hd1 hd9 (fun i hi8 => (hrs i hi8).1) hF (by omega)
  rw [zbc (n := 512) (fl_congr (n := 8) (c := 64) (by decide) hmo)] at h
  exact h)
 clear hF hF0 hn fn r1 hc0 hrs hsd hmo hd hd1 h0 h9 hmon hi lm hpr
 go_enter Try.func16, Try.ntmps16
 go_upto_region 1 with (fail)
 rw [← zero512]
 obtain ⟨W1, hwo⟩ : ∃ v : World, v = (((w.alloc (.cells (zb 512 (fl 64 F)) 26)).alloc (.cells (fdC (p : Int) m).toArray 38)).alloc (.cells (zb 512 (fl 64 (fun _ _ => 0))) 26)) := ⟨_, rfl⟩
 have B0 : Blk W1 (w.heap.size) 512 26 (fl 64 F) := by subst hwo; have := (((Blk.new w 512 26 (fl 64 F)).alloc (.cells (fdC (p : Int) m).toArray 38)).alloc (.cells (zb 512 (fl 64 (fun _ _ => 0))) 26)); simpa using this
 have B1 : Row W1 (w.heap.size + 1) 38 (fdC (p : Int) m).toArray := by subst hwo; have := ((Row.new (w.alloc (.cells (zb 512 (fl 64 F)) 26)) 38 (fdC (p : Int) m).toArray).alloc (.cells (zb 512 (fl 64 (fun _ _ => 0))) 26)); simpa using this
 have B2 : Blk W1 (w.heap.size + 1 + 1) 512 26 (fl 64 (fun _ _ => 0)) := by subst hwo; have := (Blk.new ((w.alloc (.cells (zb 512 (fl 64 F)) 26)).alloc (.cells (fdC (p : Int) m).toArray 38)) 512 26 (fl 64 (fun _ _ => 0))); simpa using this
 have hb : Below w.heap.size w W1 := by subst hwo; exact ((((Below.refl _ _).alloc (Nat.le_refl _) _).alloc (by simp) _).alloc (by simp; omega) _)
 rw [← hwo]
 clear hwo
 have lt_B0 : (w.heap.size) < W1.heap.size := B0.lt
 have lt_B1 : (w.heap.size + 1) < W1.heap.size := B1.lt
 have lt_B2 : (w.heap.size + 1 + 1) < W1.heap.size := B2.lt
 have hbase : w.heap.size ≤ W1.heap.size := hb.size
 refine zq Try.mixed (by kernel_rfl) (by kernel_rfl) (fun v => by (simp only [frL, Act.put, pA, pB, pC, Nat.reduceAdd, Nat.zero_add]; exact rfl))
  (fun L v W2 => Below w.heap.size w W2 ∧ Kx [w.heap.size + 1 + 1] W1 W2 ∧ (∃ g, Blk W2 (w.heap.size + 1 + 1) 512 26 (g)) ∧ (L 9 = false → Blk W2 (w.heap.size + 1 + 1) 512 26 (fl 64 (fun _ _ => 0))) ∧ (L 9 = true → Blk W2 (w.heap.size + 1 + 1) 512 26 (fl 64 (moS p m F))) ∧ VF L v [some (.agg (fdC (p : Int) m).toArray), some (.agg (zb 64 (oneP))), some (.agg (zb 512 (fl 64 F))), some (.agg (zb 64 (F n))), some (.agg (zb 64 (mmP p oneP (bzU p (F n) m) m))), some (.agg (zb 512 (fl 64 (sng 0 (mmP p oneP (bzU p (F n) m) m))))), some (.agg (fdC (p : Int) m).toArray), some (.agg (zb 512 (fl 64 F))), some (.agg (zb 512 (fl 64 (moS p m F)))), none]) ?_ ?_ ?_
 · intro v hv0
   exact ⟨hb.drew, Kx.start _ _, ⟨_, B2.drew⟩, (fun _ => B2.drew), (fun h => by cases h), VF.start⟩
 · refine (.cons rfl ?_ (.cons rfl ?_ (.cons rfl ?_ (.cons rfl ?_ (.cons rfl ?_ (.cons rfl ?_ (.cons rfl ?_ (.cons rfl ?_ (.cons rfl ?_ (.cons rfl ?_ (.nil _)))))))))))
   all_goals intro L v W2 hd hn ⟨hB, hX, x2, q2, n2, V⟩ K hK
   · refine wp_load_rowv 38 _ rfl _ rfl 38 _ (B1.kx hX (by simp <;> omega)) _ Try.underlying38 rfl 65 Try.size38 (by simp [fdC_len]) ?_
     exact hK _ _ _ rfl ⟨hB, hX, x2, q2, n2, V.step 0 rfl⟩
   · refine wp_build_of 24 _ rfl (zb 64 oneP) (by rw [Array.toList_map]; show Try.prog.built 24 [(0, .int .u8 1)] = some (zb 64 oneP); exact built_one) ?_
     exact hK _ _ _ rfl ⟨hB, hX, x2, q2, n2, V.step 1 rfl⟩
   · refine wp_load_any 26 _ rfl _ rfl 512 26 _ (B0.kx hX (by simp <;> omega)) _ Try.underlying26 rfl Try.size26 ?_
     exact hK _ _ _ rfl ⟨hB, hX, x2, q2, n2, V.step 2 rfl⟩
   · have e2 := V.at (zdq hd 2 rfl) rfl
     go_wp2_with (go_at_call 33; refine (HLF.out _).mono ?_; rintro e wy ⟨rfl, hy⟩)
     exact hK _ (.agg (zb 64 (F n))) _ (by simp only [Act.put, pA, pB, pC, e2]) ⟨hB.trans (hy.mono hB.size), hX.below hy, (let ⟨g, h⟩ := x2; ⟨g, h.zw hy⟩), (fun h => (q2 h).below hy (q2 h).lt), (fun h => (n2 h).below hy (n2 h).lt), V.step 3 rfl⟩
   · have e0 := V.at (zdq hd 0 rfl) rfl
     have e1 := V.at (zdq hd 1 rfl) rfl
     have e3 := V.at (zdq hd 3 rfl) rfl
     go_wp2_with (go_at_call 32; refine (HQ.out _).mono ?_; rintro e wy ⟨rfl, hy⟩)
     exact hK _ (.agg (zb 64 (mmP p oneP (bzU p (F n) m) m))) _ (by simp only [Act.put, pA, pB, pC, e0, e1, e3]) ⟨hB.trans (hy.mono hB.size), hX.below hy, (let ⟨g, h⟩ := x2; ⟨g, h.zw hy⟩), (fun h => (q2 h).below hy (q2 h).lt), (fun h => (n2 h).below hy (n2 h).lt), V.step 4 rfl⟩
   · have e4 := V.at (zdq hd 4 rfl) rfl
     refine wp_build_of 26 _ rfl (zb 512 (fl 64 (sng 0 (mmP p oneP (bzU p (F n) m) m)))) (by rw [Array.toList_map]; show Try.prog.built 26 [(0, v 4)] = some (zb 512 (fl 64 (sng 0 (mmP p oneP (bzU p (F n) m) m)))); rw [e4]; exact built_sk0 _) ?_
     exact hK _ _ _ rfl ⟨hB, hX, x2, q2, n2, V.step 5 rfl⟩
   · refine wp_load_rowv 38 _ rfl _ rfl 38 _ (B1.kx hX (by simp <;> omega)) _ Try.underlying38 rfl 65 Try.size38 (by simp [fdC_len]) ?_
     exact hK _ _ _ rfl ⟨hB, hX, x2, q2, n2, V.step 6 rfl⟩
   · refine wp_load_any 26 _ rfl _ rfl 512 26 _ (B0.kx hX (by simp <;> omega)) _ Try.underlying26 rfl Try.size26 ?_
     exact hK _ _ _ rfl ⟨hB, hX, x2, q2, n2, V.step 7 rfl⟩
   · have e5 := V.at (zdq hd 5 rfl) rfl
     have e6 := V.at (zdq hd 6 rfl) rfl
     have e7 := V.at (zdq hd 7 rfl) rfl
     go_wp2_with (go_at_call 15; refine (HTM.out _).mono ?_; rintro e wy ⟨rfl, hy⟩)
     exact hK _ (.agg (zb 512 (fl 64 (moS p m F)))) _ (by simp only [Act.put, pA, pB, pC, e5, e6, e7]) ⟨hB.trans (hy.mono hB.size), hX.below hy, (let ⟨g, h⟩ := x2; ⟨g, h.zw hy⟩), (fun h => (q2 h).below hy (q2 h).lt), (fun h => (n2 h).below hy (n2 h).lt), V.step 8 rfl⟩
   have e8 := V.at (zdq hd 8 rfl) rfl
   obtain ⟨gz, hk⟩ := x2
   refine zsb 26 _ _ rfl _ 512 (fl 64 (moS p m F)) rfl e8 26 gz hk Try.size26 ?_
   exact hK _ undef _ rfl ⟨zr hB (by omega) _, hX.row (by simp) _, ⟨_, hk.row _⟩, (fun h => absurd h (by simp [setL])), (fun _ => hk.row _), V.skip 9 rfl⟩
 intro L v W2 hL ⟨hB, hX, x2, q2, n2, V⟩
 have r2 := n2 (hL 9 (by decide))
 have e0 := V.at (hL 0 (by decide)) rfl
 have e1 := V.at (hL 1 (by decide)) rfl
 have e2 := V.at (hL 2 (by decide)) rfl
 have e3 := V.at (hL 3 (by decide)) rfl
 have e4 := V.at (hL 4 (by decide)) rfl
 have e5 := V.at (hL 5 (by decide)) rfl
 have e6 := V.at (hL 6 (by decide)) rfl
 have e7 := V.at (hL 7 (by decide)) rfl
 have e8 := V.at (hL 8 (by decide)) rfl
 clear hL x2 q2 n2 V
 replace B0 := B0.kx hX (by simp <;> omega)
 replace B1 := B1.kx hX (by simp <;> omega)
 clear hX
 simp only [Exit.then, e0, e1, e2, e3, e4, e5, e6, e7, e8]
 clear e0 e1 e2 e3 e4 e5 e6 e7 e8
 replace B2 := r2
 clear r2
 replace hb := hB
 clear hB
 clear hbase lt_B0 lt_B1 lt_B2
 go_wp2_with fail
 refine bodyPost_ret (results_any rfl _ _ _ 512 _ _ rfl B2 _ Try.underlying26 rfl Try.size26) rfl ⟨rfl, hb⟩
theorem common_any (p : Nat) (m : Nat → Nat) (F0 G0 : Nat → Nat → Nat) (w : World) (hpr : p = 2 ∨ p = 3 ∨ p = 5 ∨ p = 7) (lm : ∀ k, k < 64 → m k < p) (d : Nat) (hmon : mon m d) (hi : irr p (cut m) d) (hd9 : d ≤ 9) (hF : rsk p m F0) (hG : rsk p m G0) :
 Calls Try.prog 13 #[.agg (zb 512 (fl 64 F0)), .agg (fdC (p : Int) m).toArray, .agg (zb 512 (fl 64 G0))] w fun e w' => e = .returned (.tuple #[.agg (zb 512 (fl 64 (eu p m d 9 F0 G0 (sng 0 oneP) (fun _ _ => 0)).1)), .agg (zb 512 (fl 64 (eu p m d 9 F0 G0 (sng 0 oneP) (fun _ _ => 0)).2))]) ∧ Below w.heap.size w w' := by
 have p0 : 0 < p := by omega
 have hd := hmon.1
 have hd1 := hi.1
 have h0 : 0 ≤ deg m := by omega
 have h9 : deg m ≤ 9 := by omega
 have p2 : 2 ≤ p := by omega
 have p7 : p ≤ 7 := by omega
 have g7 := (zsd G0).2
 have HI0 := Lib.hid (show skD G0 < ((9 : Nat) : Int) ∧ EI p m F0 G0 (sng 0 oneP) (fun _ _ => 0) (skD G0) from ⟨by omega, EI_start hpr lm hmon hi hd9 hF hG⟩)
 have HDV := Lib.hid (fun (A B : Nat → Nat → Nat) (hA : rsk p m A) (hB : rsk p m B) (h : 0 ≤ skD B) W => skDivR_any p m A B W hpr lm d hmon hi hd9 hA hB h)
 have HDQ := Lib.hid (fun (A B : Nat → Nat → Nat) (hA : rsk p m A) (hB : rsk p m B) (h : 0 ≤ skD B) => dq_ok hpr lm hmon hi hd9 hA hB h)
 have HFI := Lib.hid (fun (A B U Vv : Nat → Nat → Nat) (H : EI p m A B U Vv (skD G0)) (h : 0 ≤ skD B) => EI_fit hpr lm hmon hi hd9 H h g7)
 have HST := Lib.hid (fun (A B U Vv : Nat → Nat → Nat) (H : EI p m A B U Vv (skD G0)) (h : 0 ≤ skD B) => EI_step hpr lm hmon hi hd9 H h g7)
 have HTI := Lib.hid (fun (Q Vv : Nat → Nat → Nat) (hQ : rsk p m Q) (hV : rsk p m Vv) (h : skD Q + skD Vv ≤ 7) W => skTimes_any p m Q Vv W hpr lm d hd hd1 hd9 (fun i hi8 => (hQ i hi8).1) hV h)
 have HMI := Lib.hid (fun (Q T : Nat → Nat → Nat) (hQ : rsk p m Q) (hT : rsk p m T) W => skMinus_any p m Q T W p2 p7 (fun i hi8 => (hQ i hi8).1) (fun i hi8 => (hT i hi8).1))
 have HP := Lib.hid (fun (F G : Nat → Nat → Nat) => show rsk p m (tmP p m d F G) from fun i _ => tmP_rsd hpr lm h0 i)
 clear hF hG hd hd1 h0 h9 hmon hi lm hpr g7
 go_enter Try.func13, Try.ntmps13
 go_upto_region 1 with (fail)
 rw [← zero512]
 obtain ⟨W1, hwo⟩ : ∃ v : World, v = (((((w.alloc (.cells (zb 512 (fl 64 F0)) 26)).alloc (.cells (fdC (p : Int) m).toArray 38)).alloc (.cells (zb 512 (fl 64 G0)) 26)).alloc (.cells (zb 512 (fl 64 (fun _ _ => 0))) 26)).alloc (.cells (zb 512 (fl 64 (fun _ _ => 0))) 26)) := ⟨_, rfl⟩
 have B0 : Blk W1 (w.heap.size) 512 26 (fl 64 F0) := by subst hwo; have := (((((Blk.new w 512 26 (fl 64 F0)).alloc (.cells (fdC (p : Int) m).toArray 38)).alloc (.cells (zb 512 (fl 64 G0)) 26)).alloc (.cells (zb 512 (fl 64 (fun _ _ => 0))) 26)).alloc (.cells (zb 512 (fl 64 (fun _ _ => 0))) 26)); simpa using this
 have B1 : Row W1 (w.heap.size + 1) 38 (fdC (p : Int) m).toArray := by subst hwo; have := ((((Row.new (w.alloc (.cells (zb 512 (fl 64 F0)) 26)) 38 (fdC (p : Int) m).toArray).alloc (.cells (zb 512 (fl 64 G0)) 26)).alloc (.cells (zb 512 (fl 64 (fun _ _ => 0))) 26)).alloc (.cells (zb 512 (fl 64 (fun _ _ => 0))) 26)); simpa using this
 have B2 : Blk W1 (w.heap.size + 1 + 1) 512 26 (fl 64 G0) := by subst hwo; have := (((Blk.new ((w.alloc (.cells (zb 512 (fl 64 F0)) 26)).alloc (.cells (fdC (p : Int) m).toArray 38)) 512 26 (fl 64 G0)).alloc (.cells (zb 512 (fl 64 (fun _ _ => 0))) 26)).alloc (.cells (zb 512 (fl 64 (fun _ _ => 0))) 26)); simpa using this
 have B3 : Blk W1 (w.heap.size + 1 + 1 + 1) 512 26 (fl 64 (fun _ _ => 0)) := by subst hwo; have := ((Blk.new (((w.alloc (.cells (zb 512 (fl 64 F0)) 26)).alloc (.cells (fdC (p : Int) m).toArray 38)).alloc (.cells (zb 512 (fl 64 G0)) 26)) 512 26 (fl 64 (fun _ _ => 0))).alloc (.cells (zb 512 (fl 64 (fun _ _ => 0))) 26)); simpa using this
 have B4 : Blk W1 (w.heap.size + 1 + 1 + 1 + 1) 512 26 (fl 64 (fun _ _ => 0)) := by subst hwo; have := (Blk.new ((((w.alloc (.cells (zb 512 (fl 64 F0)) 26)).alloc (.cells (fdC (p : Int) m).toArray 38)).alloc (.cells (zb 512 (fl 64 G0)) 26)).alloc (.cells (zb 512 (fl 64 (fun _ _ => 0))) 26)) 512 26 (fl 64 (fun _ _ => 0))); simpa using this
 have hb : Below w.heap.size w W1 := by subst hwo; exact ((((((Below.refl _ _).alloc (Nat.le_refl _) _).alloc (by simp) _).alloc (by simp; omega) _).alloc (by simp; omega) _).alloc (by simp; omega) _)
 rw [← hwo]
 clear hwo
 have lt_B0 : (w.heap.size) < W1.heap.size := B0.lt
 have lt_B1 : (w.heap.size + 1) < W1.heap.size := B1.lt
 have lt_B2 : (w.heap.size + 1 + 1) < W1.heap.size := B2.lt
 have lt_B3 : (w.heap.size + 1 + 1 + 1) < W1.heap.size := B3.lt
 have lt_B4 : (w.heap.size + 1 + 1 + 1 + 1) < W1.heap.size := B4.lt
 refine zq Try.mixed (by kernel_rfl) (by kernel_rfl) (fun v => by (simp only [frL, Act.put, pA, pB, pC, Nat.reduceAdd, Nat.zero_add]; exact rfl))
  (fun L v W2 => Below W1.heap.size W1 W2 ∧ (L 6 = true → AF (v 6) W2 W1.heap.size 1024 55) ∧ (L 7 = true → AF (v 7) W2 W1.heap.size 1024 55) ∧ (L 8 = true → PF (v 6) W2 W1.heap.size 1024 55 (c2s F0 (sng 0 oneP))) ∧ (L 9 = true → PF (v 7) W2 W1.heap.size 1024 55 (c2s G0 (fun _ _ => 0))) ∧ (L 6 = true → L 7 = true → v 6 ≠ v 7) ∧ VF L v [some (.agg (zb 512 (fl 64 F0))), some (.agg (zb 64 (oneP))), some (.agg (zb 512 (fl 64 (sng 0 oneP)))), some (.agg (zb 1024 (c2s F0 (sng 0 oneP)))), some (.agg (zb 512 (fl 64 G0))), some (.agg (zb 1024 (c2s G0 (fun _ _ => 0)))), none, none, none, none]) ?_ ?_ ?_
 · intro v hv0
   exact ⟨(Below.refl _ W1).drew, (fun h => by cases h), (fun h => by cases h), (fun h => by cases h), (fun h => by cases h), (fun h => by cases h), VF.start⟩
 · refine (.cons rfl ?_ (.cons rfl ?_ (.cons rfl ?_ (.cons rfl ?_ (.cons rfl ?_ (.cons rfl ?_ (.cons rfl ?_ (.cons rfl ?_ (.cons rfl ?_ (.cons rfl ?_ (.nil _)))))))))))
   all_goals intro L v W2 hd hn ⟨hY, h6, h7, h8, h9, d6_7, V⟩ K hK
   · refine zlc (B0.zw hY) Try.underlying26 Try.size26 ?_
     exact hK _ _ _ rfl ⟨hY, h6, h7, h8, h9, d6_7, V.step 0 rfl⟩
   · refine wp_build_of 24 _ rfl (zb 64 oneP) (by rw [Array.toList_map]; show Try.prog.built 24 [(0, .int .u8 1)] = some (zb 64 oneP); exact built_one) ?_
     exact hK _ _ _ rfl ⟨hY, h6, h7, h8, h9, d6_7, V.step 1 rfl⟩
   · have e1 := V.at (zdq hd 1 rfl) rfl
     refine wp_build_of 26 _ rfl (zb 512 (fl 64 (sng 0 oneP))) (by rw [Array.toList_map]; show Try.prog.built 26 [(0, v 1)] = some (zb 512 (fl 64 (sng 0 oneP))); rw [e1]; exact built_sk0 _) ?_
     exact hK _ _ _ rfl ⟨hY, h6, h7, h8, h9, d6_7, V.step 2 rfl⟩
   · have e0 := V.at (zdq hd 0 rfl) rfl
     have e2 := V.at (zdq hd 2 rfl) rfl
     refine wp_build_of 55 _ rfl (zb 1024 (c2s F0 (sng 0 oneP))) (by rw [Array.toList_map]; show Try.prog.built 55 [(0, v 0), (1, v 2)] = some (zb 1024 (c2s F0 (sng 0 oneP))); rw [e0, e2]; exact built_sr1 _ _) ?_
     exact hK _ _ _ rfl ⟨hY, h6, h7, h8, h9, d6_7, V.step 3 rfl⟩
   · refine zlc (B2.zw hY) Try.underlying26 Try.size26 ?_
     exact hK _ _ _ rfl ⟨hY, h6, h7, h8, h9, d6_7, V.step 4 rfl⟩
   · have e4 := V.at (zdq hd 4 rfl) rfl
     refine wp_build_of 55 _ rfl (zb 1024 (c2s G0 (fun _ _ => 0))) (by rw [Array.toList_map]; show Try.prog.built 55 [(0, v 4)] = some (zb 1024 (c2s G0 (fun _ _ => 0))); rw [e4]; exact built_sr0 _) ?_
     exact hK _ _ _ rfl ⟨hY, h6, h7, h8, h9, d6_7, V.step 5 rfl⟩
   · go_wp2_with fail
     rw [← zero1024]
     exact hK _ (.pointer (some ⟨W2.heap.size, 0, none⟩)) _ (by simp only [Act.put, pA, pB, pC ]) ⟨hY.alloc hY.size _, (fun _ => (PF.new W2 1024 55 _ hY.size).af), (fun h => (h7 h).below (zal _ _)), (fun h => absurd rfl (hn 8 _ rfl h ⟨6, .data⟩ (by simp) rfl)), (fun h => (h9 h).below (zal _ _)), (fun h g1 => Ne.symm ((h7 g1).ne_new)), V.skip 6 rfl⟩
   · go_wp2_with fail
     rw [← zero1024]
     exact hK _ (.pointer (some ⟨W2.heap.size, 0, none⟩)) _ (by simp only [Act.put, pA, pB, pC ]) ⟨hY.alloc hY.size _, (fun h => (h6 h).below (zal _ _)), (fun _ => (PF.new W2 1024 55 _ hY.size).af), (fun h => (h8 h).below (zal _ _)), (fun h => absurd rfl (hn 9 _ rfl h ⟨7, .data⟩ (by simp) rfl)), (fun h g1 => (h6 h).ne_new), V.skip 7 rfl⟩
   · have e3 := V.at (zdq hd 3 rfl) rfl
     obtain ⟨gz, b, ea, hN, hk⟩ := (h6 (zdq hd 6 rfl)).out
     refine zsb 55 _ _ rfl b 1024 (c2s F0 (sng 0 oneP)) ea e3 55 gz hk Try.size55 ?_
     exact hK _ undef _ rfl ⟨zr hY hN _, (fun h => (h6 h).row hk), (fun h => (h7 h).row hk), (fun _ => by rw [show updV v 8 undef 6 = v 6 from rfl, ea]; exact PF.row hk hN _), (fun h => (h9 h).rowOther (by rw [← ea]; exact (Ne.symm (d6_7 (zdq hd 6 rfl) (zdq hd 7 rfl))))), d6_7, V.skip 8 rfl⟩
   have e5 := V.at (zdq hd 5 rfl) rfl
   obtain ⟨gz, b, ea, hN, hk⟩ := (h7 (zdq hd 7 rfl)).out
   refine zsb 55 _ _ rfl b 1024 (c2s G0 (fun _ _ => 0)) ea e5 55 gz hk Try.size55 ?_
   exact hK _ undef _ rfl ⟨zr hY hN _, (fun h => (h6 h).row hk), (fun h => (h7 h).row hk), (fun h => (h8 h).rowOther (by rw [← ea]; exact (d6_7 (zdq hd 6 rfl) (zdq hd 7 rfl)))), (fun _ => by rw [show updV v 9 undef 7 = v 7 from rfl, ea]; exact PF.row hk hN _), d6_7, V.skip 9 rfl⟩
 intro L v W2 hL ⟨hY, h6, h7, h8, h9, d6_7, V⟩
 obtain ⟨k1_6, e6, hNk1_6, hk1_6⟩ := (h8 (hL 8 (by decide))).out
 obtain ⟨k1_7, e7, hNk1_7, hk1_7⟩ := (h9 (hL 9 (by decide))).out
 have n6_7 := d6_7 (hL 6 (by decide)) (hL 7 (by decide))
 have e0 := V.at (hL 0 (by decide)) rfl
 have e1 := V.at (hL 1 (by decide)) rfl
 have e2 := V.at (hL 2 (by decide)) rfl
 have e3 := V.at (hL 3 (by decide)) rfl
 have e4 := V.at (hL 4 (by decide)) rfl
 have e5 := V.at (hL 5 (by decide)) rfl
 clear hL h6 h7 h8 h9 d6_7 V
 replace B0 := B0.zw hY
 replace B1 := B1.zw hY
 replace B2 := B2.zw hY
 replace B3 := B3.zw hY
 replace B4 := B4.zw hY
 replace hb := hb.trans (hY.mono hb.size)
 clear hY
 rw [e6, e7] at n6_7
 have mk1_6_7 : k1_6 ≠ k1_7 := fun h => n6_7 (by rw [h])
 clear n6_7
 simp only [Exit.then, e6, e7, e0, e1, e2, e3, e4, e5]
 clear e6 e7 e0 e1 e2 e3 e4 e5
 have B5 := hk1_6
 clear hk1_6
 have zk1_6_0 : w.heap.size < k1_6 := by omega
 have zk1_6_1 : w.heap.size + 1 < k1_6 := by omega
 have zk1_6_2 : w.heap.size + 1 + 1 < k1_6 := by omega
 have zk1_6_3 : w.heap.size + 1 + 1 + 1 < k1_6 := by omega
 have zk1_6_4 : w.heap.size + 1 + 1 + 1 + 1 < k1_6 := by omega
 have B6 := hk1_7
 clear hk1_7
 have zk1_7_0 : w.heap.size < k1_7 := by omega
 have zk1_7_1 : w.heap.size + 1 < k1_7 := by omega
 have zk1_7_2 : w.heap.size + 1 + 1 < k1_7 := by omega
 have zk1_7_3 : w.heap.size + 1 + 1 + 1 < k1_7 := by omega
 have zk1_7_4 : w.heap.size + 1 + 1 + 1 + 1 < k1_7 := by omega
 clear lt_B0 lt_B1 lt_B2 lt_B3 lt_B4
 go_wp2_with fail
 go_loopw [10] (fun _ wr => ∃ (fu : Nat) (A B U Vv : Nat → Nat → Nat), Hid (eu p m d fu A B U Vv = eu p m d 9 F0 G0 (sng 0 oneP) (fun _ _ => 0) ∧ skD B < (fu : Int) ∧ EI p m A B U Vv (skD G0)) ∧ Below w.heap.size w wr ∧ Row wr (w.heap.size + 1) 38 (fdC (p : Int) m).toArray ∧ Blk wr (w.heap.size + 1 + 1 + 1) 512 26 (fl 64 (fun _ _ => 0)) ∧ Blk wr (w.heap.size + 1 + 1 + 1 + 1) 512 26 (fl 64 (fun _ _ => 0)) ∧ Blk wr (k1_6) 1024 55 (c2s A U) ∧ Blk wr (k1_7) 1024 55 (c2s B Vv)) (fun _ wr => skAt wr (k1_7))
 case atStart => exact ⟨9, _, _, _, _, Lib.hid ⟨rfl, HI0.out.1, HI0.out.2⟩, hb, B1, B3, B4, B5, B6⟩
 case round =>
  clear hb B0 B2 B1 B3 B4 B5 B6 HI0
  obtain ⟨fu, A, B, U, Vv, hI, hb, B1, B3, B4, B5, B6⟩ := hrel
  have BF0 := Lib.hid B6
  have hgd := Try.noGuard26
  have heq := fun W => run_equalIn_sk (P := Try.prog) W 9997 26 24 5 B (fun _ _ => 0) Try.underlying26 Try.underlying24 Try.underlying5 Try.size24 Try.size5
  rw [skE_zero] at heq
  by_cases hz : skD B < 0
  · have HV := Lib.hid (show (A, Vv) = eu p m d 9 F0 G0 (sng 0 oneP) (fun _ _ => 0) by rw [← hI.out.1, eu_stop hz])
    rw [decide_eq_true hz] at heq
    go_upto_region 5 with (first | rw [← zero512] | (refine wpList_load_mid rfl 26 (.tmp 18) rfl _ 0 rfl (bl 512 (fl 64 B)) _ ((B6).mid (by omega) (c2s_0 _ _)) Try.underlying26 rfl (by rw [zl]; exact Try.size26) ?_))
    clear heq hgd
    have lt_B1 : (w.heap.size + 1) < wr.heap.size := B1.lt
    have lt_B3 : (w.heap.size + 1 + 1 + 1) < wr.heap.size := B3.lt
    have lt_B4 : (w.heap.size + 1 + 1 + 1 + 1) < wr.heap.size := B4.lt
    have lt_B5 : (k1_6) < wr.heap.size := B5.lt
    have lt_B6 : (k1_7) < wr.heap.size := B6.lt
    have hbase : w.heap.size ≤ wr.heap.size := hb.size
    refine zq Try.mixed (by kernel_rfl) (by kernel_rfl) (fun v => by (simp only [frL, Act.put, pA, pB, pC, Nat.reduceAdd, Nat.zero_add]; exact rfl))
     (fun L v W3 => Below w.heap.size w W3 ∧ Kx [w.heap.size + 1 + 1 + 1, w.heap.size + 1 + 1 + 1 + 1] wr W3 ∧ (∃ g, Blk W3 (w.heap.size + 1 + 1 + 1) 512 26 (g)) ∧ (L 4 = false → Blk W3 (w.heap.size + 1 + 1 + 1) 512 26 (fl 64 (fun _ _ => 0))) ∧ (L 4 = true → Blk W3 (w.heap.size + 1 + 1 + 1) 512 26 (fl 64 A)) ∧ (∃ g, Blk W3 (w.heap.size + 1 + 1 + 1 + 1) 512 26 (g)) ∧ (L 5 = false → Blk W3 (w.heap.size + 1 + 1 + 1 + 1) 512 26 (fl 64 (fun _ _ => 0))) ∧ (L 5 = true → Blk W3 (w.heap.size + 1 + 1 + 1 + 1) 512 26 (fl 64 Vv)) ∧ VF L v [some (.pointer (some ⟨k1_6, 0, none⟩)), some (.agg (zb 512 (fl 64 A))), some (.pointer (some ⟨k1_7, 512, none⟩)), some (.agg (zb 512 (fl 64 Vv))), none, none]) ?_ ?_ ?_
    · intro v hv0
      exact ⟨hb.drew, Kx.start _ _, ⟨_, B3.drew⟩, (fun _ => B3.drew), (fun h => by cases h), ⟨_, B4.drew⟩, (fun _ => B4.drew), (fun h => by cases h), VF.start⟩
    · refine (.cons rfl ?_ (.cons rfl ?_ (.cons rfl ?_ (.cons rfl ?_ (.cons rfl ?_ (.cons rfl ?_ (.nil _)))))))
      all_goals intro L v W3 hd hn ⟨hB, hX, x1, q1, n1, x2, q2, n2, V⟩ K hK
      · go_wp2_with fail
        exact hK _ (.pointer (some ⟨k1_6, 0, none⟩)) _ (by simp only [Act.put, pA, pB, pC ]) ⟨hB, hX, x1, q1, n1, x2, q2, n2, V.step 0 rfl⟩
      · have e0 := V.at (zdq hd 0 rfl) rfl
        refine wp_load_mid 26 _ rfl _ (0) e0 _ _ ((B5.kx hX (by simp <;> omega)).mid (by omega) (c2s_0 _ _)) Try.underlying26 rfl (by rw [zl]; exact Try.size26) ?_
        exact hK _ _ _ rfl ⟨hB, hX, x1, q1, n1, x2, q2, n2, V.step 1 rfl⟩
      · go_wp2_with fail
        exact hK _ (.pointer (some ⟨k1_7, 512, none⟩)) _ (by simp only [Act.put, pA, pB, pC ]) ⟨hB, hX, x1, q1, n1, x2, q2, n2, V.step 2 rfl⟩
      · have e2 := V.at (zdq hd 2 rfl) rfl
        refine wp_load_mid 26 _ rfl _ (512) e2 _ _ ((B6.kx hX (by simp <;> omega)).mid (by omega) (c2s_1 _ _)) Try.underlying26 rfl (by rw [zl]; exact Try.size26) ?_
        exact hK _ _ _ rfl ⟨hB, hX, x1, q1, n1, x2, q2, n2, V.step 3 rfl⟩
      · have e1 := V.at (zdq hd 1 rfl) rfl
        obtain ⟨gz, hk⟩ := x1
        refine zsb 26 _ _ rfl _ 512 (fl 64 A) rfl e1 26 gz hk Try.size26 ?_
        exact hK _ undef _ rfl ⟨zr hB (by omega) _, hX.row (by simp) _, ⟨_, hk.row _⟩, (fun h => absurd h (by simp [setL])), (fun _ => hk.row _), (let ⟨g, h⟩ := x2; ⟨g, (h).rowOther (by omega)⟩), (fun h => (q2 h).rowOther (by omega)), (fun h => (n2 h).rowOther (by omega)), V.skip 4 rfl⟩
      have e3 := V.at (zdq hd 3 rfl) rfl
      obtain ⟨gz, hk⟩ := x2
      refine zsb 26 _ _ rfl _ 512 (fl 64 Vv) rfl e3 26 gz hk Try.size26 ?_
      exact hK _ undef _ rfl ⟨zr hB (by omega) _, hX.row (by simp) _, (let ⟨g, h⟩ := x1; ⟨g, (h).rowOther (by omega)⟩), (fun h => (q1 h).rowOther (by omega)), (fun h => (n1 h).rowOther (by omega)), ⟨_, hk.row _⟩, (fun h => absurd h (by simp [setL])), (fun _ => hk.row _), V.skip 5 rfl⟩
    intro L v W3 hL ⟨hB, hX, x1, q1, n1, x2, q2, n2, V⟩
    have r1 := n1 (hL 4 (by decide))
    have r2 := n2 (hL 5 (by decide))
    have e0 := V.at (hL 0 (by decide)) rfl
    have e1 := V.at (hL 1 (by decide)) rfl
    have e2 := V.at (hL 2 (by decide)) rfl
    have e3 := V.at (hL 3 (by decide)) rfl
    clear hL x1 q1 n1 x2 q2 n2 V
    replace B1 := B1.kx hX (by simp <;> omega)
    replace B5 := B5.kx hX (by simp <;> omega)
    replace B6 := B6.kx hX (by simp <;> omega)
    clear hX
    simp only [Exit.then, e0, e1, e2, e3]
    clear e0 e1 e2 e3
    replace B3 := r1
    clear r1
    replace B4 := r2
    clear r2
    replace hb := hB
    clear hB
    clear hbase lt_B1 lt_B3 lt_B4 lt_B5 lt_B6
    go_wp2_with fail
    refine bodyPost_ret (results_any2 rfl _ _ _ 512 _ _ _ 512 _ _ rfl B3 _ Try.underlying26 rfl Try.size26 rfl B4 _ Try.underlying26 rfl Try.size26) rfl ⟨by rw [← HV.out], hb⟩
  rw [decide_eq_false hz] at heq
  obtain ⟨i1, i2, i3⟩ := hI.out
  obtain ⟨rA, rB, rU, rV, i4⟩ := i3
  have hB0 : 0 ≤ skD B := by omega
  obtain ⟨q1, q2, q3, q4, q5⟩ := HDQ.out A B rA rB hB0
  obtain ⟨fu, rfl⟩ : ∃ x, fu = x + 1 := ⟨fu - 1, by omega⟩
  have hI2 := Lib.hid (show eu p m d fu B (dq p m d A B).2 Vv (skA p U (tmP p m d (dq p m d A B).1 Vv) (-1)) = eu p m d 9 F0 G0 (sng 0 oneP) (fun _ _ => 0) ∧ skD (dq p m d A B).2 < (fu : Int) ∧ EI p m B (dq p m d A B).2 Vv (skA p U (tmP p m d (dq p m d A B).1 Vv) (-1)) (skD G0) from ⟨by rw [← i1, eu_step hz], by omega, HST.out A B U Vv hI.out.2.2 hB0⟩)
  have HK1 := Lib.hid (HDV.out A B rA rB hB0)
  have HK2 := Lib.hid (HTI.out (dq p m d A B).1 Vv q1 rV (HFI.out A B U Vv hI.out.2.2 hB0))
  have HK3 := Lib.hid (HMI.out U (tmP p m d (dq p m d A B).1 Vv) rU (HP.out _ _))
  have hM := Lib.hid (show skD (dq p m d A B).2 < skD B ∧ 0 ≤ skD B from ⟨q3, hB0⟩)
  clear i1 i2 i4 rA rB rU rV hB0 q1 q2 q3 q4 q5 hI hz
  go_upto_region 3 with (first | rw [← zero512] | (refine wpList_load_mid rfl 26 (.tmp 18) rfl _ 0 rfl (bl 512 (fl 64 B)) _ ((B6).mid (by omega) (c2s_0 _ _)) Try.underlying26 rfl (by rw [zl]; exact Try.size26) ?_))
  clear heq hgd
  have lt_B1 := B1.lt
  have lt_B3 := B3.lt
  have lt_B4 := B4.lt
  have lt_B5 := B5.lt
  have lt_B6 := B6.lt
  go_upto_region 4 with (first | rw [← z64] | rw [← zero512] | (refine wpList_load_mid rfl 26 (.tmp 23) rfl _ 0 rfl (bl 512 (fl 64 A)) _ ((B5).mid (by omega) (c2s_0 _ _)) Try.underlying26 rfl (by rw [zl]; exact Try.size26) ?_) | (refine zlr rfl 38 (.tmp 4) rfl _ rfl 38 (fdC (p : Int) m).toArray B1 _ Try.underlying38 rfl 65 Try.size38 (by simp [fdC_len]) ?_) | (refine wpList_load_mid rfl 26 (.tmp 26) rfl _ 0 rfl (bl 512 (fl 64 B)) _ ((B6).mid (by omega) (c2s_0 _ _)) Try.underlying26 rfl (by rw [zl]; exact Try.size26) ?_) | (go_at_call 28; refine (HK1.out _).mono ?_; rintro e W3 ⟨rfl, hW3⟩; replace B1 := B1.zw hW3; replace B3 := B3.zw hW3; replace B4 := B4.zw hW3; replace B5 := B5.zw hW3; replace B6 := B6.zw hW3; replace hb := (hb).trans (hW3.mono (hb).size)) | (refine wpList_store_blk rfl 26 (.tmp 10) (.tmp 29) rfl _ 512 (fl 64 (dq p m d A B).1) rfl rfl 26 _ (((Blk.new W3 512 26 (fl 64 (fun _ _ => 0))).alloc (.cells (zb 512 (fl 64 (fun _ _ => 0))) 26))) Try.size26 ?_; try simp only [Act.put]) | (refine wpList_store_blk rfl 26 (.tmp 11) (.tmp 30) rfl _ 512 (fl 64 (dq p m d A B).2) rfl rfl 26 _ (((show Blk ((W3.alloc (.cells (zb 512 (fl 64 (fun _ _ => 0))) 26)).alloc (.cells (zb 512 (fl 64 (fun _ _ => 0))) 26)) (W3.heap.size + 1) 512 26 (fl 64 (fun _ _ => 0)) by have := Blk.new (W3.alloc (.cells (zb 512 (fl 64 (fun _ _ => 0))) 26)) 512 26 (fl 64 (fun _ _ => 0)); simpa using this).rowOther (by omega))) Try.size26 ?_; try simp only [Act.put]))
  have lt_B1 := B1.lt
  have lt_B3 := B3.lt
  have lt_B4 := B4.lt
  have lt_B5 := B5.lt
  have lt_B6 := B6.lt
  have lhb := hb.size
  obtain ⟨W4, hwo, hzQ⟩ : ∃ v : World, v = ((((W3.alloc (.cells (zb 512 (fl 64 (fun _ _ => 0))) 26)).alloc (.cells (zb 512 (fl 64 (fun _ _ => 0))) 26)).setRow (W3.heap.size) (zb 512 (fl 64 (dq p m d A B).1))).setRow (W3.heap.size + 1) (zb 512 (fl 64 (dq p m d A B).2))) ∧ Row v (w.heap.size + 1) 38 (fdC (p : Int) m).toArray ∧ Blk v (w.heap.size + 1 + 1 + 1) 512 26 (fl 64 (fun _ _ => 0)) ∧ Blk v (w.heap.size + 1 + 1 + 1 + 1) 512 26 (fl 64 (fun _ _ => 0)) ∧ Blk v (k1_6) 1024 55 (c2s A U) ∧ Blk v (k1_7) 1024 55 (c2s B Vv) ∧ Blk v (W3.heap.size) 512 26 (fl 64 (dq p m d A B).1) ∧ Blk v (W3.heap.size + 1) 512 26 (fl 64 (dq p m d A B).2) ∧ Below w.heap.size w v := ⟨_, rfl, ((((B1.alloc (.cells (zb 512 (fl 64 (fun _ _ => 0))) 26)).alloc (.cells (zb 512 (fl 64 (fun _ _ => 0))) 26)).rowOther (by omega)).rowOther (by omega)), ((((B3.alloc (.cells (zb 512 (fl 64 (fun _ _ => 0))) 26)).alloc (.cells (zb 512 (fl 64 (fun _ _ => 0))) 26)).rowOther (by omega)).rowOther (by omega)), ((((B4.alloc (.cells (zb 512 (fl 64 (fun _ _ => 0))) 26)).alloc (.cells (zb 512 (fl 64 (fun _ _ => 0))) 26)).rowOther (by omega)).rowOther (by omega)), ((((B5.alloc (.cells (zb 512 (fl 64 (fun _ _ => 0))) 26)).alloc (.cells (zb 512 (fl 64 (fun _ _ => 0))) 26)).rowOther (by omega)).rowOther (by omega)), ((((B6.alloc (.cells (zb 512 (fl 64 (fun _ _ => 0))) 26)).alloc (.cells (zb 512 (fl 64 (fun _ _ => 0))) 26)).rowOther (by omega)).rowOther (by omega)), ((((Blk.new W3 512 26 (fl 64 (fun _ _ => 0))).alloc (.cells (zb 512 (fl 64 (fun _ _ => 0))) 26)).row (fl 64 (dq p m d A B).1)).rowOther (by omega)), (((show Blk ((W3.alloc (.cells (zb 512 (fl 64 (fun _ _ => 0))) 26)).alloc (.cells (zb 512 (fl 64 (fun _ _ => 0))) 26)) (W3.heap.size + 1) 512 26 (fl 64 (fun _ _ => 0)) by have := Blk.new (W3.alloc (.cells (zb 512 (fl 64 (fun _ _ => 0))) 26)) 512 26 (fl 64 (fun _ _ => 0)); simpa using this).rowOther (by omega)).row (fl 64 (dq p m d A B).2)), (zr (zr ((hb.alloc (by have := hb.size; simp; omega) (.cells (zb 512 (fl 64 (fun _ _ => 0))) 26)).alloc (by have := hb.size; simp; omega) (.cells (zb 512 (fl 64 (fun _ _ => 0))) 26)) (by omega) _) (by omega) _)⟩
  rw [← hwo]
  clear hwo B1 B3 B4 B5 B6 hb
  obtain ⟨B1, B3, B4, B5, B6, B7, B8, hb⟩ := hzQ
  obtain ⟨N1, hNN⟩ : ∃ n : Nat, n = W3.heap.size := ⟨_, rfl⟩
  rw [← hNN] at lt_B1 lt_B3 lt_B4 lt_B5 lt_B6 lhb B7 B8 ⊢
  clear hNN
  have zN1_1 := lt_B1
  have zN1_3 := lt_B3
  have zN1_4 := lt_B4
  have zN1_5 := lt_B5
  have zN1_6 := lt_B6
  have zN1 := lhb
  clear lt_B1 lt_B3 lt_B4 lt_B5 lt_B6 lhb
  try simp only [Act.put, pA, pB, pC]
  have lt_B1 : (w.heap.size + 1) < W4.heap.size := B1.lt
  have lt_B3 : (w.heap.size + 1 + 1 + 1) < W4.heap.size := B3.lt
  have lt_B4 : (w.heap.size + 1 + 1 + 1 + 1) < W4.heap.size := B4.lt
  have lt_B5 : (k1_6) < W4.heap.size := B5.lt
  have lt_B6 : (k1_7) < W4.heap.size := B6.lt
  have lt_B7 : (N1) < W4.heap.size := B7.lt
  have lt_B8 : (N1 + 1) < W4.heap.size := B8.lt
  have hbase : w.heap.size ≤ W4.heap.size := hb.size
  refine zq Try.mixed (by kernel_rfl) (by kernel_rfl) (fun v => by (simp only [frL, Act.put, pA, pB, pC, Nat.reduceAdd, Nat.zero_add]; exact rfl))
   (fun L v W5 => Below w.heap.size w W5 ∧ Kx [k1_6, k1_7] W4 W5 ∧ (∃ g, Blk W5 (k1_6) 1024 55 (g)) ∧ (L 12 = false → Blk W5 (k1_6) 1024 55 (c2s A U)) ∧ (L 12 = true → Blk W5 (k1_6) 1024 55 (c2s B Vv)) ∧ (∃ g, Blk W5 (k1_7) 1024 55 (g)) ∧ (L 13 = false → Blk W5 (k1_7) 1024 55 (c2s B Vv)) ∧ (L 13 = true → Blk W5 (k1_7) 1024 55 (c2s (dq p m d A B).2 (skA p U (tmP p m d (dq p m d A B).1 Vv) (-1)))) ∧ VF L v [some (.agg (zb 1024 (c2s B Vv))), some (.agg (zb 512 (fl 64 (dq p m d A B).2))), some (.pointer (some ⟨k1_6, 512, none⟩)), some (.agg (zb 512 (fl 64 U))), some (.agg (fdC (p : Int) m).toArray), some (.agg (zb 512 (fl 64 (dq p m d A B).1))), some (.agg (fdC (p : Int) m).toArray), some (.pointer (some ⟨k1_7, 512, none⟩)), some (.agg (zb 512 (fl 64 Vv))), some (.agg (zb 512 (fl 64 (tmP p m d (dq p m d A B).1 Vv)))), some (.agg (zb 512 (fl 64 (skA p U (tmP p m d (dq p m d A B).1 Vv) (-1))))), some (.agg (zb 1024 (c2s (dq p m d A B).2 (skA p U (tmP p m d (dq p m d A B).1 Vv) (-1))))), none, none]) ?_ ?_ ?_
  · intro v hv0
    exact ⟨hb.drew, Kx.start _ _, ⟨_, B5.drew⟩, (fun _ => B5.drew), (fun h => by cases h), ⟨_, B6.drew⟩, (fun _ => B6.drew), (fun h => by cases h), VF.start⟩
  · refine (.cons rfl ?_ (.cons rfl ?_ (.cons rfl ?_ (.cons rfl ?_ (.cons rfl ?_ (.cons rfl ?_ (.cons rfl ?_ (.cons rfl ?_ (.cons rfl ?_ (.cons rfl ?_ (.cons rfl ?_ (.cons rfl ?_ (.cons rfl ?_ (.cons rfl ?_ (.nil _)))))))))))))))
    all_goals intro L v W5 hd hn ⟨hB, hX, x3, q3, n3, x4, q4, n4, V⟩ K hK
    · have s4 := q4 (by
       cases hL : L 13 with
       | false => rfl
       | true => exact absurd rfl (hn 13 _ rfl hL ⟨0, .phase⟩ (by simp) rfl))
      refine zlc s4 Try.underlying55 Try.size55 ?_
      exact hK _ _ _ rfl ⟨hB, hX, x3, q3, n3, x4, q4, n4, V.step 0 rfl⟩
    · refine wp_load_any 26 _ rfl _ rfl 512 26 _ (B8.kx hX (by simp <;> omega)) _ Try.underlying26 rfl Try.size26 ?_
      exact hK _ _ _ rfl ⟨hB, hX, x3, q3, n3, x4, q4, n4, V.step 1 rfl⟩
    · go_wp2_with fail
      exact hK _ (.pointer (some ⟨k1_6, 512, none⟩)) _ (by simp only [Act.put, pA, pB, pC ]) ⟨hB, hX, x3, q3, n3, x4, q4, n4, V.step 2 rfl⟩
    · have e2 := V.at (zdq hd 2 rfl) rfl
      have s3 := q3 (by
       cases hL : L 12 with
       | false => rfl
       | true => exact absurd rfl (hn 12 _ rfl hL ⟨3, .phase⟩ (by simp) rfl))
      refine wp_load_mid 26 _ rfl _ (512) e2 _ _ (s3.mid (by omega) (c2s_1 _ _)) Try.underlying26 rfl (by rw [zl]; exact Try.size26) ?_
      exact hK _ _ _ rfl ⟨hB, hX, x3, q3, n3, x4, q4, n4, V.step 3 rfl⟩
    · refine wp_load_rowv 38 _ rfl _ rfl 38 _ (B1.kx hX (by simp <;> omega)) _ Try.underlying38 rfl 65 Try.size38 (by simp [fdC_len]) ?_
      exact hK _ _ _ rfl ⟨hB, hX, x3, q3, n3, x4, q4, n4, V.step 4 rfl⟩
    · refine wp_load_any 26 _ rfl _ rfl 512 26 _ (B7.kx hX (by simp <;> omega)) _ Try.underlying26 rfl Try.size26 ?_
      exact hK _ _ _ rfl ⟨hB, hX, x3, q3, n3, x4, q4, n4, V.step 5 rfl⟩
    · refine wp_load_rowv 38 _ rfl _ rfl 38 _ (B1.kx hX (by simp <;> omega)) _ Try.underlying38 rfl 65 Try.size38 (by simp [fdC_len]) ?_
      exact hK _ _ _ rfl ⟨hB, hX, x3, q3, n3, x4, q4, n4, V.step 6 rfl⟩
    · go_wp2_with fail
      exact hK _ (.pointer (some ⟨k1_7, 512, none⟩)) _ (by simp only [Act.put, pA, pB, pC ]) ⟨hB, hX, x3, q3, n3, x4, q4, n4, V.step 7 rfl⟩
    · have e7 := V.at (zdq hd 7 rfl) rfl
      have s4 := q4 (by
       cases hL : L 13 with
       | false => rfl
       | true => exact absurd rfl (hn 13 _ rfl hL ⟨8, .phase⟩ (by simp) rfl))
      refine wp_load_mid 26 _ rfl _ (512) e7 _ _ (s4.mid (by omega) (c2s_1 _ _)) Try.underlying26 rfl (by rw [zl]; exact Try.size26) ?_
      exact hK _ _ _ rfl ⟨hB, hX, x3, q3, n3, x4, q4, n4, V.step 8 rfl⟩
    · have e5 := V.at (zdq hd 5 rfl) rfl
      have e6 := V.at (zdq hd 6 rfl) rfl
      have e8 := V.at (zdq hd 8 rfl) rfl
      go_wp2_with (go_at_call 15; refine (HK2.out _).mono ?_; rintro e wy ⟨rfl, hy⟩)
      exact hK _ (.agg (zb 512 (fl 64 (tmP p m d (dq p m d A B).1 Vv)))) _ (by simp only [Act.put, pA, pB, pC, e5, e6, e8]) ⟨hB.trans (hy.mono hB.size), hX.below hy, (let ⟨g, h⟩ := x3; ⟨g, h.zw hy⟩), (fun h => (q3 h).below hy (q3 h).lt), (fun h => (n3 h).below hy (n3 h).lt), (let ⟨g, h⟩ := x4; ⟨g, h.zw hy⟩), (fun h => (q4 h).below hy (q4 h).lt), (fun h => (n4 h).below hy (n4 h).lt), V.step 9 rfl⟩
    · have e3 := V.at (zdq hd 3 rfl) rfl
      have e4 := V.at (zdq hd 4 rfl) rfl
      have e9 := V.at (zdq hd 9 rfl) rfl
      go_wp2_with (go_at_call 30; refine (HK3.out _).mono ?_; rintro e wy ⟨rfl, hy⟩)
      exact hK _ (.agg (zb 512 (fl 64 (skA p U (tmP p m d (dq p m d A B).1 Vv) (-1))))) _ (by simp only [Act.put, pA, pB, pC, e3, e4, e9]) ⟨hB.trans (hy.mono hB.size), hX.below hy, (let ⟨g, h⟩ := x3; ⟨g, h.zw hy⟩), (fun h => (q3 h).below hy (q3 h).lt), (fun h => (n3 h).below hy (n3 h).lt), (let ⟨g, h⟩ := x4; ⟨g, h.zw hy⟩), (fun h => (q4 h).below hy (q4 h).lt), (fun h => (n4 h).below hy (n4 h).lt), V.step 10 rfl⟩
    · have e1 := V.at (zdq hd 1 rfl) rfl
      have e10 := V.at (zdq hd 10 rfl) rfl
      refine wp_build_of 55 _ rfl (zb 1024 (c2s (dq p m d A B).2 (skA p U (tmP p m d (dq p m d A B).1 Vv) (-1)))) (by rw [Array.toList_map]; show Try.prog.built 55 [(0, v 1), (1, v 10)] = some (zb 1024 (c2s (dq p m d A B).2 (skA p U (tmP p m d (dq p m d A B).1 Vv) (-1)))); rw [e1, e10]; exact built_sr1 _ _) ?_
      exact hK _ _ _ rfl ⟨hB, hX, x3, q3, n3, x4, q4, n4, V.step 11 rfl⟩
    · have e0 := V.at (zdq hd 0 rfl) rfl
      obtain ⟨gz, hk⟩ := x3
      refine zsb 55 _ _ rfl _ 1024 (c2s B Vv) rfl e0 55 gz hk Try.size55 ?_
      exact hK _ undef _ rfl ⟨zr hB (by omega) _, hX.row (by simp) _, ⟨_, hk.row _⟩, (fun h => absurd h (by simp [setL])), (fun _ => hk.row _), (let ⟨g, h⟩ := x4; ⟨g, (h).rowOther (by omega)⟩), (fun h => (q4 h).rowOther (by omega)), (fun h => (n4 h).rowOther (by omega)), V.skip 12 rfl⟩
    have e11 := V.at (zdq hd 11 rfl) rfl
    obtain ⟨gz, hk⟩ := x4
    refine zsb 55 _ _ rfl _ 1024 (c2s (dq p m d A B).2 (skA p U (tmP p m d (dq p m d A B).1 Vv) (-1))) rfl e11 55 gz hk Try.size55 ?_
    exact hK _ undef _ rfl ⟨zr hB (by omega) _, hX.row (by simp) _, (let ⟨g, h⟩ := x3; ⟨g, (h).rowOther (by omega)⟩), (fun h => (q3 h).rowOther (by omega)), (fun h => (n3 h).rowOther (by omega)), ⟨_, hk.row _⟩, (fun h => absurd h (by simp [setL])), (fun _ => hk.row _), V.skip 13 rfl⟩
  intro L v W5 hL ⟨hB, hX, x3, q3, n3, x4, q4, n4, V⟩
  have r3 := n3 (hL 12 (by decide))
  have r4 := n4 (hL 13 (by decide))
  have e0 := V.at (hL 0 (by decide)) rfl
  have e1 := V.at (hL 1 (by decide)) rfl
  have e2 := V.at (hL 2 (by decide)) rfl
  have e3 := V.at (hL 3 (by decide)) rfl
  have e4 := V.at (hL 4 (by decide)) rfl
  have e5 := V.at (hL 5 (by decide)) rfl
  have e6 := V.at (hL 6 (by decide)) rfl
  have e7 := V.at (hL 7 (by decide)) rfl
  have e8 := V.at (hL 8 (by decide)) rfl
  have e9 := V.at (hL 9 (by decide)) rfl
  have e10 := V.at (hL 10 (by decide)) rfl
  have e11 := V.at (hL 11 (by decide)) rfl
  clear hL x3 q3 n3 x4 q4 n4 V
  replace B1 := B1.kx hX (by simp <;> omega)
  replace B3 := B3.kx hX (by simp <;> omega)
  replace B4 := B4.kx hX (by simp <;> omega)
  replace B7 := B7.kx hX (by simp <;> omega)
  replace B8 := B8.kx hX (by simp <;> omega)
  clear hX
  simp only [Exit.then, e0, e1, e2, e3, e4, e5, e6, e7, e8, e9, e10, e11]
  clear e0 e1 e2 e3 e4 e5 e6 e7 e8 e9 e10 e11
  replace B5 := r3
  clear r3
  replace B6 := r4
  clear r4
  replace hb := hB
  clear hB
  clear hbase lt_B1 lt_B3 lt_B4 lt_B5 lt_B6 lt_B7 lt_B8
  go_wp2_with fail
  go_roundw
  case rel => exact ⟨fu, _, _, _, _, hI2, hb, B1, B3, B4, B5, B6⟩
  case measure => rw [skAt_c2s B6, skAt_c2s BF0.out]; have h1 := hM.out; omega
end Go.Proofs.Ytoncepgcfifgbab
namespace Go.Proofs.Ytoncepgcfifgbab
open Go Go.RowKit
attribute [local irreducible] sng oneP
theorem l03One_any (w : World) : Calls Try.prog 21 #[] w fun e w' => e = .returned (.agg (zb 512 (fl 64 (sng 0 oneP)))) ∧ Below w.heap.size w w' := by
 go_enter Try.func21, Try.ntmps21
 go_upto_region 1 with (fail)
 rw [← zero512]
 obtain ⟨W1, hwo⟩ : ∃ v : World, v = (w.alloc (.cells (zb 512 (fl 64 (fun _ _ => 0))) 26)) := ⟨_, rfl⟩
 have B0 : Blk W1 (w.heap.size) 512 26 (fl 64 (fun _ _ => 0)) := by subst hwo; have := (Blk.new w 512 26 (fl 64 (fun _ _ => 0))); simpa using this
 have hb : Below w.heap.size w W1 := by subst hwo; exact ((Below.refl _ _).alloc (Nat.le_refl _) _)
 rw [← hwo]
 clear hwo
 go_wp2_with (first | rw [← z64] | rw [← zero512] | (go_at_call 40; refine (l01One_any _).mono ?_; rintro e W2 ⟨rfl, hW2⟩; replace B0 := B0.zw hW2; replace hb := (hb).trans (hW2.mono (hb).size)) | (refine zbo rfl 26 _ rfl (zb 512 (fl 64 (sng 0 oneP))) (by rw [Array.toList_map]; exact built_sk0 oneP) ?_) | (refine zsr (.tmp 0) (.tmp 2) (fl 64 (sng 0 oneP)) B0 Try.size26 ?_; try simp only [Act.put]))
 obtain ⟨W3, hwo, hzQ⟩ : ∃ v : World, v = (W2.setRow (w.heap.size) (zb 512 (fl 64 (sng 0 oneP)))) ∧ Blk v (w.heap.size) 512 26 (fl 64 (sng 0 oneP)) ∧ Below w.heap.size w v := ⟨_, rfl, (B0.row (fl 64 (sng 0 oneP))), (zr hb (by omega) _)⟩
 rw [← hwo]
 clear hwo B0 hb
 obtain ⟨B0, hb⟩ := hzQ
 try simp only [Act.put, pA, pB, pC]
 refine bodyPost_ret (results_any rfl _ _ _ 512 _ _ rfl B0 _ Try.underlying26 rfl Try.size26) rfl ⟨rfl, hb⟩
end Go.Proofs.Ytoncepgcfifgbab
namespace Go.Proofs.Ytoncepgcfifgbab
open Go Go.RowKit
attribute [local irreducible] deg addK strP frI frN mmP pmP resP bzU bzD bzW skA skD sng oneP
def upJ (F G : Nat → Nat → Nat) (j : Nat) : Nat → Nat → Nat := fun i => if i < j then G i else F i
theorem upJ_z (F G : Nat → Nat → Nat) : upJ F G 0 = F := by funext i; exact if_neg (Nat.not_lt_zero i)
theorem upJ_at (F G : Nat → Nat → Nat) (j : Nat) : upJ F G j j = F j := if_neg (Nat.lt_irrefl j)
theorem upJ_s (F G : Nat → Nat → Nat) (j : Nat) : updR (upJ F G j) j (G j) = upJ F G (j + 1) := by
 funext i
 unfold updR upJ
 by_cases e : i = j
 · subst e; rw [if_pos rfl, if_pos (by omega)]
 rw [if_neg e]
 by_cases h : i < j
 · rw [if_pos h, if_pos (by omega)]
 rw [if_neg h, if_neg (by omega)]
theorem upJ_end (F G : Nat → Nat → Nat) : zb 512 (fl 64 (upJ F G 8)) = zb 512 (fl 64 G) :=
 zbc (n := 512) (fl_congr (n := 8) (c := 64) (by decide) (fun i hi j _ => by unfold upJ; rw [if_pos hi]))
attribute [local irreducible] upJ
theorem l03Monic_any (p : Nat) (m : Nat → Nat) (F : Nat → Nat → Nat) (w : World) (hpr : p = 2 ∨ p = 3 ∨ p = 5 ∨ p = 7) (lm : ∀ k, k < 64 → m k < p) (d : Nat) (hmon : mon m d) (hi : irr p (cut m) d) (hd9 : d ≤ 9) (hF : rsk p m F) (hF0 : 0 ≤ skD F) :
 Calls Try.prog 25 #[.int .i64 (p : Int), .agg (zb 64 m), .agg (zb 512 (fl 64 F))] w fun e w' => e = .returned (.agg (zb 512 (fl 64 (moS p m F)))) ∧ Below w.heap.size w w' := by
 have p0 : 0 < p := by omega
 have hd := hmon.1
 have hd1 := hi.1
 have h0 : 0 ≤ deg m := by omega
 have h9 : deg m ≤ 9 := by omega
 obtain ⟨n, hn⟩ : ∃ n : Nat, skD F = (n : Int) := ⟨(skD F).toNat, by omega⟩
 obtain ⟨n8, fn⟩ := skN_row hn
 have HIV := Lib.hid (fun W => l03Inverse_any p m (F n) W hpr lm h0 (hF n n8).1)
 have hmo := moS_mod hpr lm hmon hi hd9 hF hF0
 rw [hn, show (n : Int).toNat = n from rfl] at hmo
 have HMM := Lib.hid (show ∀ j, j < 8 → ∀ W, Calls Try.prog 41 #[.int .i64 (p : Int), .agg (zb 64 (resP p (bzU p (F n) m) m)), .agg (zb 64 (F j)), .agg (zb 64 m)] W fun e w' => e = .returned (.agg (zb 64 (moS p m F j))) ∧ Below W.heap.size W w' from fun j hj W => by
  have h := l01MulMod_any p (resP p (bzU p (F n) m) m) (F j) m W hpr (resP_lt p0 (fun k _ => bzU_lt p0 k)) (hF j hj).1 lm h0
  rw [zbc (hmo j hj)] at h
  exact h)
 have HDF := Lib.hid (show ∀ W, Calls Try.prog 10 #[.agg (zb 512 (fl 64 F))] W fun e w' => e = .returned (.int .i64 (n : Int)) ∧ Below W.heap.size W w' from fun W => by have := l03Deg_any F W; rwa [hn] at this)
 have HZ := Lib.hid (upJ_z F (moS p m F))
 have HA := Lib.hid (upJ_at F (moS p m F))
 have HS := Lib.hid (upJ_s F (moS p m F))
 have HV := Lib.hid (upJ_end F (moS p m F))
 clear hF hF0 hn fn hmo hd hd1 h0 h9 hmon hi lm hpr
 go_enter Try.func25, Try.ntmps25
 go_upto_region 1 with (fail)
 rw [← zero512]
 obtain ⟨W1, hwo⟩ : ∃ v : World, v = (((w.alloc (.cells (zb 64 (m)) 24)).alloc (.cells (zb 512 (fl 64 F)) 26)).alloc (.cells (zb 512 (fl 64 (fun _ _ => 0))) 26)) := ⟨_, rfl⟩
 have B0 : Blk W1 (w.heap.size) 64 24 (m) := by subst hwo; have := (((Blk.new w 64 24 (m)).alloc (.cells (zb 512 (fl 64 F)) 26)).alloc (.cells (zb 512 (fl 64 (fun _ _ => 0))) 26)); simpa using this
 have B1 : Blk W1 (w.heap.size + 1) 512 26 (fl 64 F) := by subst hwo; have := ((Blk.new (w.alloc (.cells (zb 64 (m)) 24)) 512 26 (fl 64 F)).alloc (.cells (zb 512 (fl 64 (fun _ _ => 0))) 26)); simpa using this
 have B2 : Blk W1 (w.heap.size + 1 + 1) 512 26 (fl 64 (fun _ _ => 0)) := by subst hwo; have := (Blk.new ((w.alloc (.cells (zb 64 (m)) 24)).alloc (.cells (zb 512 (fl 64 F)) 26)) 512 26 (fl 64 (fun _ _ => 0))); simpa using this
 have hb : Below w.heap.size w W1 := by subst hwo; exact ((((Below.refl _ _).alloc (Nat.le_refl _) _).alloc (by simp) _).alloc (by simp; omega) _)
 rw [← hwo]
 clear hwo
 have lt_B0 : (w.heap.size) < W1.heap.size := B0.lt
 have lt_B1 : (w.heap.size + 1) < W1.heap.size := B1.lt
 have lt_B2 : (w.heap.size + 1 + 1) < W1.heap.size := B2.lt
 refine zq Try.mixed (by kernel_rfl) (by kernel_rfl) (fun v => by (simp only [frL, Act.put, pA, pB, pC, Nat.reduceAdd, Nat.zero_add]; exact rfl))
  (fun L v W2 => Below W1.heap.size W1 W2 ∧ (L 7 = true → AF (v 7) W2 W1.heap.size 64 24) ∧ (L 8 = true → PF (v 7) W2 W1.heap.size 64 24 (resP p (bzU p (F n) m) m)) ∧ VF L v [some (.int .i64 (p : Int)), some (.agg (zb 512 (fl 64 F))), some (.int .i64 (n : Int)), some (.pointer (some ⟨w.heap.size + 1, n * 64, none⟩)), some (.agg (zb 64 (F n))), some (.agg (zb 64 (m))), some (.agg (zb 64 (resP p (bzU p (F n) m) m))), none, none]) ?_ ?_ ?_
 · intro v hv0
   exact ⟨(Below.refl _ W1).drew, (fun h => by cases h), (fun h => by cases h), VF.start⟩
 · refine (.cons rfl ?_ (.cons rfl ?_ (.cons rfl ?_ (.cons rfl ?_ (.cons rfl ?_ (.cons rfl ?_ (.cons rfl ?_ (.cons rfl ?_ (.cons rfl ?_ (.nil _))))))))))
   all_goals intro L v W2 hd hn ⟨hY, h7, h8, V⟩ K hK
   · go_wp2_with fail
     exact hK _ (.int .i64 (p : Int)) _ (by simp only [Act.put, pA, pB, pC ]) ⟨hY, h7, h8, V.step 0 rfl⟩
   · refine zlc (B1.zw hY) Try.underlying26 Try.size26 ?_
     exact hK _ _ _ rfl ⟨hY, h7, h8, V.step 1 rfl⟩
   · have e1 := V.at (zdq hd 1 rfl) rfl
     go_wp2_with (go_at_call 10; refine (HDF.out _).mono ?_; rintro e wy ⟨rfl, hy⟩)
     exact hK _ (.int .i64 (n : Int)) _ (by simp only [Act.put, pA, pB, pC, e1]) ⟨hY.trans (hy.mono hY.size), (fun h => (h7 h).below hy), (fun h => (h8 h).below hy), V.step 2 rfl⟩
   · have e2 := V.at (zdq hd 2 rfl) rfl
     go_wp2_with fail
     exact hK _ (.pointer (some ⟨w.heap.size + 1, n * 64, none⟩)) _ (by simp only [Act.put, pA, pB, pC, e2]) ⟨hY, h7, h8, V.step 3 rfl⟩
   · have e3 := V.at (zdq hd 3 rfl) rfl
     refine wp_load_mid 24 _ rfl _ (n * 64) e3 _ _ (((B1.zw hY)).sk (by omega)) Try.underlying24 rfl (by rw [zl]; exact Try.size24) ?_
     exact hK _ _ _ rfl ⟨hY, h7, h8, V.step 4 rfl⟩
   · refine zlc (B0.zw hY) Try.underlying24 Try.size24 ?_
     exact hK _ _ _ rfl ⟨hY, h7, h8, V.step 5 rfl⟩
   · have e0 := V.at (zdq hd 0 rfl) rfl
     have e4 := V.at (zdq hd 4 rfl) rfl
     have e5 := V.at (zdq hd 5 rfl) rfl
     go_wp2_with (go_at_call 42; refine (HIV.out _).mono ?_; rintro e wy ⟨rfl, hy⟩)
     exact hK _ (.agg (zb 64 (resP p (bzU p (F n) m) m))) _ (by simp only [Act.put, pA, pB, pC, e0, e4, e5]) ⟨hY.trans (hy.mono hY.size), (fun h => (h7 h).below hy), (fun h => (h8 h).below hy), V.step 6 rfl⟩
   · go_wp2_with fail
     rw [← z64]
     exact hK _ (.pointer (some ⟨W2.heap.size, 0, none⟩)) _ (by simp only [Act.put, pA, pB, pC ]) ⟨hY.alloc hY.size _, (fun _ => (PF.new W2 64 24 _ hY.size).af), (fun h => absurd rfl (hn 8 _ rfl h ⟨7, .data⟩ (by simp) rfl)), V.skip 7 rfl⟩
   have e6 := V.at (zdq hd 6 rfl) rfl
   obtain ⟨gz, b, ea, hN, hk⟩ := (h7 (zdq hd 7 rfl)).out
   refine zsb 24 _ _ rfl b 64 (resP p (bzU p (F n) m) m) ea e6 24 gz hk Try.size24 ?_
   exact hK _ undef _ rfl ⟨zr hY hN _, (fun h => (h7 h).row hk), (fun _ => by rw [show updV v 8 undef 7 = v 7 from rfl, ea]; exact PF.row hk hN _), V.skip 8 rfl⟩
 intro L v W2 hL ⟨hY, h7, h8, V⟩
 obtain ⟨k1_7, e7, hNk1_7, hk1_7⟩ := (h8 (hL 8 (by decide))).out
 have e0 := V.at (hL 0 (by decide)) rfl
 have e1 := V.at (hL 1 (by decide)) rfl
 have e2 := V.at (hL 2 (by decide)) rfl
 have e3 := V.at (hL 3 (by decide)) rfl
 have e4 := V.at (hL 4 (by decide)) rfl
 have e5 := V.at (hL 5 (by decide)) rfl
 have e6 := V.at (hL 6 (by decide)) rfl
 clear hL h7 h8 V
 replace B0 := B0.zw hY
 replace B1 := B1.zw hY
 replace B2 := B2.zw hY
 replace hb := hb.trans (hY.mono hb.size)
 clear hY
 simp only [Exit.then, e7, e0, e1, e2, e3, e4, e5, e6]
 clear e7 e0 e1 e2 e3 e4 e5 e6
 have B3 := hk1_7
 clear hk1_7
 have zk1_7_0 : w.heap.size < k1_7 := by omega
 have zk1_7_1 : w.heap.size + 1 < k1_7 := by omega
 have zk1_7_2 : w.heap.size + 1 + 1 < k1_7 := by omega
 clear lt_B0 lt_B1 lt_B2
 go_wp2_with fail
 go_loopw [8] (fun c wr => ∃ j : Nat, c = .int .i64 (j : Int) ∧ j ≤ 8 ∧ Below w.heap.size w wr ∧ Blk wr (w.heap.size) 64 24 m ∧ Blk wr (w.heap.size + 1) 512 26 (fl 64 (upJ F (moS p m F) j)) ∧ Blk wr (w.heap.size + 1 + 1) 512 26 (fl 64 (fun _ _ => 0)) ∧ Blk wr (k1_7) 64 24 (resP p (bzU p (F n) m) m)) (fun c _ => 8 - (intOf c).toNat)
 case atStart => exact ⟨0, rfl, by omega, hb, B0, by rw [HZ.out]; exact B1, B2, B3⟩
 case round =>
  clear hb B0 B1 B2 B3
  obtain ⟨j, rfl, hj8, hb, B0, B1, B2, B3⟩ := hrel
  by_cases hj : j < 8
  · have hjI : (j : Int) < 8 := by omega
    have HJ := Lib.hid (HA.out j)
    have HK1 := Lib.hid (show ∀ W, Calls Try.prog 41 #[.int .i64 (p : Int), .agg (zb 64 (resP p (bzU p (F n) m) m)), .agg (zb 64 (upJ F (moS p m F) j j)), .agg (zb 64 m)] W fun e w' => e = .returned (.agg (zb 64 (moS p m F j))) ∧ Below W.heap.size W w' from fun W => by rw [HJ.out]; exact HMM.out j hj W)
    go_upto_region 5 with (fail)
    have lt_B0 : (w.heap.size) < wr.heap.size := B0.lt
    have lt_B1 : (w.heap.size + 1) < wr.heap.size := B1.lt
    have lt_B2 : (w.heap.size + 1 + 1) < wr.heap.size := B2.lt
    have lt_B3 : (k1_7) < wr.heap.size := B3.lt
    have hbase : w.heap.size ≤ wr.heap.size := hb.size
    refine zq Try.mixed (by kernel_rfl) (by kernel_rfl) (fun v => by (simp only [frL, Act.put, pA, pB, pC, Nat.reduceAdd, Nat.zero_add]; exact rfl))
     (fun L v W3 => Below w.heap.size w W3 ∧ Kx [w.heap.size + 1] wr W3 ∧ (∃ g, Blk W3 (w.heap.size + 1) 512 26 (g)) ∧ (L 9 = false → Blk W3 (w.heap.size + 1) 512 26 (fl 64 (upJ F (moS p m F) j))) ∧ (L 9 = true → Blk W3 (w.heap.size + 1) 512 26 (fl 64 (updR (upJ F (moS p m F) j) j (moS p m F j)))) ∧ VF L v [some (.int .i64 (j : Int)), some (.int .i64 (p : Int)), some (.agg (zb 64 (resP p (bzU p (F n) m) m))), some (.int .i64 (j : Int)), some (.pointer (some ⟨w.heap.size + 1, j * 64, none⟩)), some (.agg (zb 64 ((upJ F (moS p m F) j) j))), some (.agg (zb 64 (m))), some (.agg (zb 64 (moS p m F j))), some (.pointer (some ⟨w.heap.size + 1, j * 64, none⟩)), none]) ?_ ?_ ?_
    · intro v hv0
      exact ⟨hb.drew, Kx.start _ _, ⟨_, B1.drew⟩, (fun _ => B1.drew), (fun h => by cases h), VF.start⟩
    · refine (.cons rfl ?_ (.cons rfl ?_ (.cons rfl ?_ (.cons rfl ?_ (.cons rfl ?_ (.cons rfl ?_ (.cons rfl ?_ (.cons rfl ?_ (.cons rfl ?_ (.cons rfl ?_ (.nil _)))))))))))
      all_goals intro L v W3 hd hn ⟨hB, hX, x1, q1, n1, V⟩ K hK
      · go_wp2_with fail
        exact hK _ (.int .i64 (j : Int)) _ (by simp only [Act.put, pA, pB, pC ]) ⟨hB, hX, x1, q1, n1, V.step 0 rfl⟩
      · go_wp2_with fail
        exact hK _ (.int .i64 (p : Int)) _ (by simp only [Act.put, pA, pB, pC ]) ⟨hB, hX, x1, q1, n1, V.step 1 rfl⟩
      · refine wp_load_any 24 _ rfl _ rfl 64 24 _ (B3.kx hX (by simp <;> omega)) _ Try.underlying24 rfl Try.size24 ?_
        exact hK _ _ _ rfl ⟨hB, hX, x1, q1, n1, V.step 2 rfl⟩
      · go_wp2_with fail
        exact hK _ (.int .i64 (j : Int)) _ (by simp only [Act.put, pA, pB, pC ]) ⟨hB, hX, x1, q1, n1, V.step 3 rfl⟩
      · have e3 := V.at (zdq hd 3 rfl) rfl
        go_wp2_with fail
        exact hK _ (.pointer (some ⟨w.heap.size + 1, j * 64, none⟩)) _ (by simp only [Act.put, pA, pB, pC, e3]) ⟨hB, hX, x1, q1, n1, V.step 4 rfl⟩
      · have e4 := V.at (zdq hd 4 rfl) rfl
        have s1 := q1 (by
         cases hL : L 9 with
         | false => rfl
         | true => exact absurd rfl (hn 9 _ rfl hL ⟨5, .phase⟩ (by simp) rfl))
        refine wp_load_mid 24 _ rfl _ (j * 64) e4 _ _ ((s1).sk (by omega)) Try.underlying24 rfl (by rw [zl]; exact Try.size24) ?_
        exact hK _ _ _ rfl ⟨hB, hX, x1, q1, n1, V.step 5 rfl⟩
      · refine wp_load_any 24 _ rfl _ rfl 64 24 _ (B0.kx hX (by simp <;> omega)) _ Try.underlying24 rfl Try.size24 ?_
        exact hK _ _ _ rfl ⟨hB, hX, x1, q1, n1, V.step 6 rfl⟩
      · have e1 := V.at (zdq hd 1 rfl) rfl
        have e2 := V.at (zdq hd 2 rfl) rfl
        have e5 := V.at (zdq hd 5 rfl) rfl
        have e6 := V.at (zdq hd 6 rfl) rfl
        go_wp2_with (go_at_call 41; refine (HK1.out _).mono ?_; rintro e wy ⟨rfl, hy⟩)
        exact hK _ (.agg (zb 64 (moS p m F j))) _ (by simp only [Act.put, pA, pB, pC, e1, e2, e5, e6]) ⟨hB.trans (hy.mono hB.size), hX.below hy, (let ⟨g, h⟩ := x1; ⟨g, h.zw hy⟩), (fun h => (q1 h).below hy (q1 h).lt), (fun h => (n1 h).below hy (n1 h).lt), V.step 7 rfl⟩
      · have e0 := V.at (zdq hd 0 rfl) rfl
        go_wp2_with fail
        exact hK _ (.pointer (some ⟨w.heap.size + 1, j * 64, none⟩)) _ (by simp only [Act.put, pA, pB, pC, e0]) ⟨hB, hX, x1, q1, n1, V.step 8 rfl⟩
      have e8 := V.at (zdq hd 8 rfl) rfl
      have e7 := V.at (zdq hd 7 rfl) rfl
      obtain ⟨gz, hk, hg⟩ : ∃ gz, Blk W3 (w.heap.size + 1) 512 26 (fl 64 gz) ∧ updR gz (j) (moS p m F j) = updR (upJ F (moS p m F) j) (j) (moS p m F j) := by
       cases hL : L 9 with
       | false => exact ⟨_, q1 hL, rfl⟩
       | true => exact ⟨_, n1 hL, updR_twice _ _ _⟩
      refine wp_store_sk 24 _ _ rfl _ (j) (moS p m F j) e8 e7 26 gz hk (by omega) Try.size24 ?_
      rw [hg]
      exact hK _ undef _ rfl ⟨zr hB (by omega) _, hX.row (by simp) _, ⟨_, hk.row _⟩, (fun h => absurd h (by simp [setL])), (fun _ => hk.row _), V.skip 9 rfl⟩
    intro L v W3 hL ⟨hB, hX, x1, q1, n1, V⟩
    have r1 := n1 (hL 9 (by decide))
    have e0 := V.at (hL 0 (by decide)) rfl
    have e1 := V.at (hL 1 (by decide)) rfl
    have e2 := V.at (hL 2 (by decide)) rfl
    have e3 := V.at (hL 3 (by decide)) rfl
    have e4 := V.at (hL 4 (by decide)) rfl
    have e5 := V.at (hL 5 (by decide)) rfl
    have e6 := V.at (hL 6 (by decide)) rfl
    have e7 := V.at (hL 7 (by decide)) rfl
    have e8 := V.at (hL 8 (by decide)) rfl
    clear hL x1 q1 n1 V
    replace B0 := B0.kx hX (by simp <;> omega)
    replace B2 := B2.kx hX (by simp <;> omega)
    replace B3 := B3.kx hX (by simp <;> omega)
    clear hX
    simp only [Exit.then, e0, e1, e2, e3, e4, e5, e6, e7, e8]
    clear e0 e1 e2 e3 e4 e5 e6 e7 e8
    replace B1 := r1
    clear r1
    replace hb := hB
    clear hB
    clear hbase lt_B0 lt_B1 lt_B2 lt_B3
    go_wp2_with fail
    go_roundw
    case rel => exact ⟨j + 1, by go_num, by omega, hb, B0, by rw [← HS.out]; exact B1, B2, B3⟩
    case measure => simp [intOf] <;> omega
  have hjI : ¬ (j : Int) < 8 := by omega
  obtain rfl : j = 8 := by omega
  go_upto_region 6 with (fail)
  have lt_B0 := B0.lt
  have lt_B1 := B1.lt
  have lt_B2 := B2.lt
  have lt_B3 := B3.lt
  go_wp2_with (first | rw [← z64] | rw [← zero512] | (refine zla (.tmp 5) B1 Try.underlying26 Try.size26 ?_) | (refine zsr (.tmp 6) (.tmp 29) (fl 64 (upJ F (moS p m F) 8)) B2 Try.size26 ?_; try simp only [Act.put]))
  obtain ⟨W3, hwo, hzQ⟩ : ∃ v : World, v = (wr.setRow (w.heap.size + 1 + 1) (zb 512 (fl 64 (upJ F (moS p m F) 8)))) ∧ Blk v (w.heap.size) 64 24 (m) ∧ Blk v (w.heap.size + 1) 512 26 (fl 64 (upJ F (moS p m F) 8)) ∧ Blk v (w.heap.size + 1 + 1) 512 26 (fl 64 (upJ F (moS p m F) 8)) ∧ Blk v (k1_7) 64 24 (resP p (bzU p (F n) m) m) ∧ Below w.heap.size w v := ⟨_, rfl, (B0.rowOther (by omega)), (B1.rowOther (by omega)), (B2.row (fl 64 (upJ F (moS p m F) 8))), (B3.rowOther (by omega)), (zr hb (by omega) _)⟩
  rw [← hwo]
  clear hwo B0 B1 B2 B3 hb
  obtain ⟨B0, B1, B2, B3, hb⟩ := hzQ
  try simp only [Act.put, pA, pB, pC]
  refine bodyPost_ret (results_any rfl _ _ _ 512 _ _ rfl B2 _ Try.underlying26 rfl Try.size26) rfl ⟨by rw [HV.out], hb⟩
theorem l03Divisor_any (p : Nat) (m : Nat → Nat) (F0 G0 : Nat → Nat → Nat) (w : World) (hpr : p = 2 ∨ p = 3 ∨ p = 5 ∨ p = 7) (lm : ∀ k, k < 64 → m k < p) (d : Nat) (hmon : mon m d) (hi : irr p (cut m) d) (hd9 : d ≤ 9) (hF : rsk p m F0) (hG : rsk p m G0) (hFG : 0 ≤ skD F0 ∨ 0 ≤ skD G0) :
 Calls Try.prog 20 #[.int .i64 (p : Int), .agg (zb 64 m), .agg (zb 512 (fl 64 F0)), .agg (zb 512 (fl 64 G0))] w fun e w' => e = .returned (.agg (zb 512 (fl 64 (moS p m (eD p m d 9 F0 G0))))) ∧ Below w.heap.size w w' := by
 have p0 : 0 < p := by omega
 have hd := hmon.1
 have hd1 := hi.1
 have h0 : 0 ≤ deg m := by omega
 have h9 : deg m ≤ 9 := by omega
 have HI0 := Lib.hid (show skD G0 < ((9 : Nat) : Int) ∧ rsk p m F0 ∧ rsk p m G0 ∧ (0 ≤ skD F0 ∨ 0 ≤ skD G0) from ⟨by have := zsd G0; omega, hF, hG, hFG⟩)
 have HDV := Lib.hid (fun (A B : Nat → Nat → Nat) (hA : rsk p m A) (hB : rsk p m B) (h : 0 ≤ skD B) W => l03Right_any p m A B W hpr lm d hmon hi hd9 hA hB h)
 have HDQ := Lib.hid (fun (A B : Nat → Nat → Nat) (hA : rsk p m A) (hB : rsk p m B) (h : 0 ≤ skD B) => dq_ok hpr lm hmon hi hd9 hA hB h)
 have HMO := Lib.hid (fun (A : Nat → Nat → Nat) (hA : rsk p m A) (h : 0 ≤ skD A) W => l03Monic_any p m A W hpr lm d hmon hi hd9 hA h)
 clear hF hG hFG hd hd1 h0 h9 hmon hi lm hpr
 go_enter Try.func20, Try.ntmps20
 go_upto_region 1 with (fail)
 rw [← zero512]
 obtain ⟨W1, hwo⟩ : ∃ v : World, v = ((((w.alloc (.cells (zb 64 (m)) 24)).alloc (.cells (zb 512 (fl 64 F0)) 26)).alloc (.cells (zb 512 (fl 64 G0)) 26)).alloc (.cells (zb 512 (fl 64 (fun _ _ => 0))) 26)) := ⟨_, rfl⟩
 have B0 : Blk W1 (w.heap.size) 64 24 (m) := by subst hwo; have := ((((Blk.new w 64 24 (m)).alloc (.cells (zb 512 (fl 64 F0)) 26)).alloc (.cells (zb 512 (fl 64 G0)) 26)).alloc (.cells (zb 512 (fl 64 (fun _ _ => 0))) 26)); simpa using this
 have B1 : Blk W1 (w.heap.size + 1) 512 26 (fl 64 F0) := by subst hwo; have := (((Blk.new (w.alloc (.cells (zb 64 (m)) 24)) 512 26 (fl 64 F0)).alloc (.cells (zb 512 (fl 64 G0)) 26)).alloc (.cells (zb 512 (fl 64 (fun _ _ => 0))) 26)); simpa using this
 have B2 : Blk W1 (w.heap.size + 1 + 1) 512 26 (fl 64 G0) := by subst hwo; have := ((Blk.new ((w.alloc (.cells (zb 64 (m)) 24)).alloc (.cells (zb 512 (fl 64 F0)) 26)) 512 26 (fl 64 G0)).alloc (.cells (zb 512 (fl 64 (fun _ _ => 0))) 26)); simpa using this
 have B3 : Blk W1 (w.heap.size + 1 + 1 + 1) 512 26 (fl 64 (fun _ _ => 0)) := by subst hwo; have := (Blk.new (((w.alloc (.cells (zb 64 (m)) 24)).alloc (.cells (zb 512 (fl 64 F0)) 26)).alloc (.cells (zb 512 (fl 64 G0)) 26)) 512 26 (fl 64 (fun _ _ => 0))); simpa using this
 have hb : Below w.heap.size w W1 := by subst hwo; exact (((((Below.refl _ _).alloc (Nat.le_refl _) _).alloc (by simp) _).alloc (by simp; omega) _).alloc (by simp; omega) _)
 rw [← hwo]
 clear hwo
 go_wp2_with fail
 go_loopw [9] (fun _ wr => ∃ (fu : Nat) (A B : Nat → Nat → Nat), Hid (eD p m d fu A B = eD p m d 9 F0 G0 ∧ skD B < (fu : Int) ∧ rsk p m A ∧ rsk p m B ∧ (0 ≤ skD A ∨ 0 ≤ skD B)) ∧ Below w.heap.size w wr ∧ Blk wr (w.heap.size) 64 24 m ∧ Blk wr (w.heap.size + 1) 512 26 (fl 64 A) ∧ Blk wr (w.heap.size + 1 + 1) 512 26 (fl 64 B) ∧ Blk wr (w.heap.size + 1 + 1 + 1) 512 26 (fl 64 (fun _ _ => 0))) (fun _ wr => skAt wr (w.heap.size + 1 + 1))
 case atStart => exact ⟨9, _, _, Lib.hid ⟨rfl, HI0.out⟩, hb, B0, B1, B2, B3⟩
 case round =>
  clear hb B0 B1 B2 B3 HI0
  obtain ⟨fu, A, B, hI, hb, B0, B1, B2, B3⟩ := hrel
  have BF0 := Lib.hid B2
  by_cases hz : skD B < 0
  · have hzI : ¬ (skD B ≥ 0) := by omega
    have HV := Lib.hid (show A = eD p m d 9 F0 G0 by rw [← hI.out.1, eD_stop hz])
    have HK := Lib.hid (HMO.out A hI.out.2.2.1 (by have := hI.out.2.2.2.2; omega))
    clear hI
    go_upto_region 5 with (first | (refine zla (.tmp 7) B2 Try.underlying26 Try.size26 ?_) | (go_at_call 10; refine (l03Deg_any B _).mono ?_; rintro e W2 ⟨rfl, hW2⟩; replace B0 := B0.zw hW2; replace B1 := B1.zw hW2; replace B2 := B2.zw hW2; replace B3 := B3.zw hW2; replace hb := (hb).trans (hW2.mono (hb).size)))
    have lt_B0 := B0.lt
    have lt_B1 := B1.lt
    have lt_B2 := B2.lt
    have lt_B3 := B3.lt
    go_wp2_with (first | rw [← z64] | rw [← zero512] | (refine zla (.tmp 5) B0 Try.underlying24 Try.size24 ?_) | (refine zla (.tmp 6) B1 Try.underlying26 Try.size26 ?_) | (go_at_call 25; refine (HK.out _).mono ?_; rintro e W3 ⟨rfl, hW3⟩; replace B0 := B0.zw hW3; replace B1 := B1.zw hW3; replace B2 := B2.zw hW3; replace B3 := B3.zw hW3; replace hb := (hb).trans (hW3.mono (hb).size)) | (refine zsr (.tmp 8) (.tmp 27) (fl 64 (moS p m A)) B3 Try.size26 ?_; try simp only [Act.put]))
    obtain ⟨W4, hwo, hzQ⟩ : ∃ v : World, v = (W3.setRow (w.heap.size + 1 + 1 + 1) (zb 512 (fl 64 (moS p m A)))) ∧ Blk v (w.heap.size) 64 24 (m) ∧ Blk v (w.heap.size + 1) 512 26 (fl 64 A) ∧ Blk v (w.heap.size + 1 + 1) 512 26 (fl 64 B) ∧ Blk v (w.heap.size + 1 + 1 + 1) 512 26 (fl 64 (moS p m A)) ∧ Below w.heap.size w v := ⟨_, rfl, (B0.rowOther (by omega)), (B1.rowOther (by omega)), (B2.rowOther (by omega)), (B3.row (fl 64 (moS p m A))), (zr hb (by omega) _)⟩
    rw [← hwo]
    clear hwo B0 B1 B2 B3 hb
    obtain ⟨B0, B1, B2, B3, hb⟩ := hzQ
    try simp only [Act.put, pA, pB, pC]
    refine bodyPost_ret (results_any rfl _ _ _ 512 _ _ rfl B3 _ Try.underlying26 rfl Try.size26) rfl ⟨by rw [← HV.out], hb⟩
  have hzI : skD B ≥ 0 := by omega
  obtain ⟨i1, i2, i3, i4, i5⟩ := hI.out
  have hB0 : 0 ≤ skD B := by omega
  obtain ⟨q1, q2, q3, q4, q5⟩ := HDQ.out A B i3 i4 hB0
  obtain ⟨fu, rfl⟩ : ∃ x, fu = x + 1 := ⟨fu - 1, by omega⟩
  have hI2 := Lib.hid (show eD p m d fu B (dq p m d A B).2 = eD p m d 9 F0 G0 ∧ skD (dq p m d A B).2 < (fu : Int) ∧ rsk p m B ∧ rsk p m (dq p m d A B).2 ∧ (0 ≤ skD B ∨ 0 ≤ skD (dq p m d A B).2) from ⟨by rw [← i1, eD_step hz], by omega, i4, q2, .inl hB0⟩)
  have HK1 := Lib.hid (HDV.out A B i3 i4 hB0)
  have hM := Lib.hid (show skD (dq p m d A B).2 < skD B ∧ 0 ≤ skD B from ⟨q3, hB0⟩)
  clear i1 i2 i3 i4 i5 hB0 q1 q2 q3 q4 q5 hI hz
  go_upto_region 2 with (first | (refine zla (.tmp 7) B2 Try.underlying26 Try.size26 ?_) | (go_at_call 10; refine (l03Deg_any B _).mono ?_; rintro e W2 ⟨rfl, hW2⟩; replace B0 := B0.zw hW2; replace B1 := B1.zw hW2; replace B2 := B2.zw hW2; replace B3 := B3.zw hW2; replace hb := (hb).trans (hW2.mono (hb).size)))
  have lt_B0 := B0.lt
  have lt_B1 := B1.lt
  have lt_B2 := B2.lt
  have lt_B3 := B3.lt
  go_upto_region 3 with (first | rw [← z64] | rw [← zero512] | (refine zla (.tmp 5) B0 Try.underlying24 Try.size24 ?_) | (refine zla (.tmp 6) B1 Try.underlying26 Try.size26 ?_) | (refine zla (.tmp 7) B2 Try.underlying26 Try.size26 ?_) | (go_at_call 22; refine (HK1.out _).mono ?_; rintro e W3 ⟨rfl, hW3⟩; replace B0 := B0.zw hW3; replace B1 := B1.zw hW3; replace B2 := B2.zw hW3; replace B3 := B3.zw hW3; replace hb := (hb).trans (hW3.mono (hb).size)) | (refine wpList_store_blk rfl 26 (.tmp 9) (.tmp 20) rfl _ 512 (fl 64 (dq p m d A B).1) rfl rfl 26 _ (((Blk.new W3 512 26 (fl 64 (fun _ _ => 0))).alloc (.cells (zb 512 (fl 64 (fun _ _ => 0))) 26))) Try.size26 ?_; try simp only [Act.put]) | (refine wpList_store_blk rfl 26 (.tmp 10) (.tmp 21) rfl _ 512 (fl 64 (dq p m d A B).2) rfl rfl 26 _ (((show Blk ((W3.alloc (.cells (zb 512 (fl 64 (fun _ _ => 0))) 26)).alloc (.cells (zb 512 (fl 64 (fun _ _ => 0))) 26)) (W3.heap.size + 1) 512 26 (fl 64 (fun _ _ => 0)) by have := Blk.new (W3.alloc (.cells (zb 512 (fl 64 (fun _ _ => 0))) 26)) 512 26 (fl 64 (fun _ _ => 0)); simpa using this).rowOther (by omega))) Try.size26 ?_; try simp only [Act.put]))
  have lt_B0 := B0.lt
  have lt_B1 := B1.lt
  have lt_B2 := B2.lt
  have lt_B3 := B3.lt
  have lhb := hb.size
  obtain ⟨W4, hwo, hzQ⟩ : ∃ v : World, v = ((((W3.alloc (.cells (zb 512 (fl 64 (fun _ _ => 0))) 26)).alloc (.cells (zb 512 (fl 64 (fun _ _ => 0))) 26)).setRow (W3.heap.size) (zb 512 (fl 64 (dq p m d A B).1))).setRow (W3.heap.size + 1) (zb 512 (fl 64 (dq p m d A B).2))) ∧ Blk v (w.heap.size) 64 24 (m) ∧ Blk v (w.heap.size + 1) 512 26 (fl 64 A) ∧ Blk v (w.heap.size + 1 + 1) 512 26 (fl 64 B) ∧ Blk v (w.heap.size + 1 + 1 + 1) 512 26 (fl 64 (fun _ _ => 0)) ∧ Blk v (W3.heap.size) 512 26 (fl 64 (dq p m d A B).1) ∧ Blk v (W3.heap.size + 1) 512 26 (fl 64 (dq p m d A B).2) ∧ Below w.heap.size w v := ⟨_, rfl, ((((B0.alloc (.cells (zb 512 (fl 64 (fun _ _ => 0))) 26)).alloc (.cells (zb 512 (fl 64 (fun _ _ => 0))) 26)).rowOther (by omega)).rowOther (by omega)), ((((B1.alloc (.cells (zb 512 (fl 64 (fun _ _ => 0))) 26)).alloc (.cells (zb 512 (fl 64 (fun _ _ => 0))) 26)).rowOther (by omega)).rowOther (by omega)), ((((B2.alloc (.cells (zb 512 (fl 64 (fun _ _ => 0))) 26)).alloc (.cells (zb 512 (fl 64 (fun _ _ => 0))) 26)).rowOther (by omega)).rowOther (by omega)), ((((B3.alloc (.cells (zb 512 (fl 64 (fun _ _ => 0))) 26)).alloc (.cells (zb 512 (fl 64 (fun _ _ => 0))) 26)).rowOther (by omega)).rowOther (by omega)), ((((Blk.new W3 512 26 (fl 64 (fun _ _ => 0))).alloc (.cells (zb 512 (fl 64 (fun _ _ => 0))) 26)).row (fl 64 (dq p m d A B).1)).rowOther (by omega)), (((show Blk ((W3.alloc (.cells (zb 512 (fl 64 (fun _ _ => 0))) 26)).alloc (.cells (zb 512 (fl 64 (fun _ _ => 0))) 26)) (W3.heap.size + 1) 512 26 (fl 64 (fun _ _ => 0)) by have := Blk.new (W3.alloc (.cells (zb 512 (fl 64 (fun _ _ => 0))) 26)) 512 26 (fl 64 (fun _ _ => 0)); simpa using this).rowOther (by omega)).row (fl 64 (dq p m d A B).2)), (zr (zr ((hb.alloc (by have := hb.size; simp; omega) (.cells (zb 512 (fl 64 (fun _ _ => 0))) 26)).alloc (by have := hb.size; simp; omega) (.cells (zb 512 (fl 64 (fun _ _ => 0))) 26)) (by omega) _) (by omega) _)⟩
  rw [← hwo]
  clear hwo B0 B1 B2 B3 hb
  obtain ⟨B0, B1, B2, B3, B4, B5, hb⟩ := hzQ
  obtain ⟨N1, hNN⟩ : ∃ n : Nat, n = W3.heap.size := ⟨_, rfl⟩
  rw [← hNN] at lt_B0 lt_B1 lt_B2 lt_B3 lhb B4 B5 ⊢
  clear hNN
  have zN1_0 := lt_B0
  have zN1_1 := lt_B1
  have zN1_2 := lt_B2
  have zN1_3 := lt_B3
  have zN1 := lhb
  clear lt_B0 lt_B1 lt_B2 lt_B3 lhb
  try simp only [Act.put, pA, pB, pC]
  have lt_B0 := B0.lt
  have lt_B1 := B1.lt
  have lt_B2 := B2.lt
  have lt_B3 := B3.lt
  have lt_B4 := B4.lt
  have lt_B5 := B5.lt
  go_upto_region 4 with (first | rw [← z64] | rw [← zero512] | (refine zla (.tmp 7) B2 Try.underlying26 Try.size26 ?_) | (refine zsr (.tmp 6) (.tmp 22) (fl 64 B) B1 Try.size26 ?_; try simp only [Act.put]))
  obtain ⟨W5, hwo, hzQ⟩ : ∃ v : World, v = (W4.setRow (w.heap.size + 1) (zb 512 (fl 64 B))) ∧ Blk v (w.heap.size) 64 24 (m) ∧ Blk v (w.heap.size + 1) 512 26 (fl 64 B) ∧ Blk v (w.heap.size + 1 + 1) 512 26 (fl 64 B) ∧ Blk v (w.heap.size + 1 + 1 + 1) 512 26 (fl 64 (fun _ _ => 0)) ∧ Blk v (N1) 512 26 (fl 64 (dq p m d A B).1) ∧ Blk v (N1 + 1) 512 26 (fl 64 (dq p m d A B).2) ∧ Below w.heap.size w v := ⟨_, rfl, (B0.rowOther (by omega)), (B1.row (fl 64 B)), (B2.rowOther (by omega)), (B3.rowOther (by omega)), (B4.rowOther (by omega)), (B5.rowOther (by omega)), (zr hb (by omega) _)⟩
  rw [← hwo]
  clear hwo B0 B1 B2 B3 B4 B5 hb
  obtain ⟨B0, B1, B2, B3, B4, B5, hb⟩ := hzQ
  try simp only [Act.put, pA, pB, pC]
  have lt_B0 := B0.lt
  have lt_B1 := B1.lt
  have lt_B2 := B2.lt
  have lt_B3 := B3.lt
  have lt_B4 := B4.lt
  have lt_B5 := B5.lt
  go_wp2_with (first | rw [← z64] | rw [← zero512] | (refine zla (.tmp 10) B5 Try.underlying26 Try.size26 ?_) | (refine zsr (.tmp 7) (.tmp 23) (fl 64 (dq p m d A B).2) B2 Try.size26 ?_; try simp only [Act.put]))
  obtain ⟨W6, hwo, hzQ⟩ : ∃ v : World, v = (W5.setRow (w.heap.size + 1 + 1) (zb 512 (fl 64 (dq p m d A B).2))) ∧ Blk v (w.heap.size) 64 24 (m) ∧ Blk v (w.heap.size + 1) 512 26 (fl 64 B) ∧ Blk v (w.heap.size + 1 + 1) 512 26 (fl 64 (dq p m d A B).2) ∧ Blk v (w.heap.size + 1 + 1 + 1) 512 26 (fl 64 (fun _ _ => 0)) ∧ Blk v (N1) 512 26 (fl 64 (dq p m d A B).1) ∧ Blk v (N1 + 1) 512 26 (fl 64 (dq p m d A B).2) ∧ Below w.heap.size w v := ⟨_, rfl, (B0.rowOther (by omega)), (B1.rowOther (by omega)), (B2.row (fl 64 (dq p m d A B).2)), (B3.rowOther (by omega)), (B4.rowOther (by omega)), (B5.rowOther (by omega)), (zr hb (by omega) _)⟩
  rw [← hwo]
  clear hwo B0 B1 B2 B3 B4 B5 hb
  obtain ⟨B0, B1, B2, B3, B4, B5, hb⟩ := hzQ
  try simp only [Act.put, pA, pB, pC]
  go_roundw
  case rel => exact ⟨fu, _, _, hI2, hb, B0, B1, B2, B3⟩
  case measure => rw [skAt_blk B2, skAt_blk BF0.out]; have h1 := hM.out; omega
theorem eD_nn {p : Nat} {m : Nat → Nat} {d : Nat} (hp : p = 2 ∨ p = 3 ∨ p = 5 ∨ p = 7) (lm : ∀ k, k < 64 → m k < p) (hmon : mon m d) (hi : irr p (cut m) d) (h9 : d ≤ 9) : ∀ (n : Nat) (A B : Nat → Nat → Nat), rsk p m A → rsk p m B → skD B < (n : Int) → (0 ≤ skD A ∨ 0 ≤ skD B) → rsk p m (eD p m d n A B) ∧ 0 ≤ skD (eD p m d n A B)
 | 0, A, B, hA, hB, hn, h => by rw [eD_stop hn]; exact ⟨hA, by omega⟩
 | n + 1, A, B, hA, hB, hn, h => by
  by_cases hz : skD B < 0
  · rw [eD_stop hz]; exact ⟨hA, by omega⟩
  obtain ⟨q1, q2, q3, _, _⟩ := dq_ok hp lm hmon hi h9 hA hB (by omega)
  rw [eD_step hz]
  exact eD_nn hp lm hmon hi h9 n _ _ hB q2 (by omega) (.inl (by omega))
theorem l03Multiple_ok (p : Nat) (m : Nat → Nat) (F0 G0 : Nat → Nat → Nat) (w : World) (hpr : p = 2 ∨ p = 3 ∨ p = 5 ∨ p = 7) (lm : ∀ k, k < 64 → m k < p) (d : Nat) (hmon : mon m d) (hi : irr p (cut m) d) (hd9 : d ≤ 9) (hF : rsk p m F0) (hG : rsk p m G0) (hF0 : 0 ≤ skD F0) (hG0 : 0 ≤ skD G0) (hfit : skD (eu p m d 9 F0 G0 (sng 0 oneP) (fun _ _ => 0)).2 + skD F0 ≤ 7) :
 Calls Try.prog 11 #[.int .i64 (p : Int), .agg (zb 64 m), .agg (zb 512 (fl 64 F0)), .agg (zb 512 (fl 64 G0))] w fun e w' => e = .returned (.tuple #[.agg (zb 512 (fl 64 (moS p m (tmP p m d (eu p m d 9 F0 G0 (sng 0 oneP) (fun _ _ => 0)).2 F0)))), .bool true]) ∧ Below w.heap.size w w' := by
 have p0 : 0 < p := by omega
 have hd := hmon.1
 have hd1 := hi.1
 have h0 : 0 ≤ deg m := by omega
 have h9 : deg m ≤ 9 := by omega
 have p2 : 2 ≤ p := by omega
 have p7 : p ≤ 7 := by omega
 have g7 := (zsd G0).2
 obtain ⟨e1, e2, e3, e4⟩ := eu_end hpr lm hmon hi hd9 g7 hG0 9 F0 G0 (sng 0 oneP) (fun _ _ => 0) (EI_start hpr lm hmon hi hd9 hF hG) (by omega)
 rw [eu_eD] at e1 e4
 have hD0 : 0 ≤ skD (eD p m d 9 F0 G0) := by
  exact (eD_nn hpr lm hmon hi hd9 9 F0 G0 hF hG (by omega) (.inl hF0)).2
 have hmd := moS_deg hpr lm hmon hi hd9 e1 hD0
 have HDI := Lib.hid (fun W => l03Divisor_any p m F0 G0 W hpr lm d hmon hi hd9 hF hG (.inl hF0))
 have HDD := Lib.hid (show ∀ W, Calls Try.prog 10 #[.agg (zb 512 (fl 64 (moS p m (eD p m d 9 F0 G0))))] W fun e w' => e = .returned (.int .i64 (skD (eD p m d 9 F0 G0))) ∧ Below W.heap.size W w' from fun W => by have := l03Deg_any (moS p m (eD p m d 9 F0 G0)) W; rwa [hmd] at this)
 have hgt : ¬ (skD F0 + skD G0 - skD (eD p m d 9 F0 G0) > 7) := by omega
 obtain ⟨fb1, fb2⟩ := zsd F0
 obtain ⟨gb1, gb2⟩ := zsd G0
 obtain ⟨db1, db2⟩ := zsd (eD p m d 9 F0 G0)
 have HI0 := Lib.hid (show skD G0 < ((9 : Nat) : Int) ∧ EI p m F0 G0 (sng 0 oneP) (fun _ _ => 0) (skD G0) from ⟨by omega, EI_start hpr lm hmon hi hd9 hF hG⟩)
 have HDV := Lib.hid (fun (A B : Nat → Nat → Nat) (hA : rsk p m A) (hB : rsk p m B) (h : 0 ≤ skD B) W => l03Right_any p m A B W hpr lm d hmon hi hd9 hA hB h)
 have HDQ := Lib.hid (fun (A B : Nat → Nat → Nat) (hA : rsk p m A) (hB : rsk p m B) (h : 0 ≤ skD B) => dq_ok hpr lm hmon hi hd9 hA hB h)
 have HFI := Lib.hid (fun (A B U Vv : Nat → Nat → Nat) (H : EI p m A B U Vv (skD G0)) (h : 0 ≤ skD B) => EI_fit hpr lm hmon hi hd9 H h g7)
 have HST := Lib.hid (fun (A B U Vv : Nat → Nat → Nat) (H : EI p m A B U Vv (skD G0)) (h : 0 ≤ skD B) => EI_step hpr lm hmon hi hd9 H h g7)
 have HTI := Lib.hid (fun (Q Vv : Nat → Nat → Nat) (hQ : rsk p m Q) (hV : rsk p m Vv) (h : skD Q + skD Vv ≤ 7) W => l03Times_ok p m Q Vv W hpr lm d hd hd1 hd9 (fun i hi8 => (hQ i hi8).1) hV h)
 have HAD := Lib.hid (fun (Q T : Nat → Nat → Nat) (hQ : rsk p m Q) (hT : rsk p m T) W => l03Add_any p Q T (-1) W p2 p7 (by omega) (by omega) (fun i hi8 => (hQ i hi8).1) (fun i hi8 => (hT i hi8).1))
 have HP := Lib.hid (fun (F G : Nat → Nat → Nat) => show rsk p m (tmP p m d F G) from fun i _ => tmP_rsd hpr lm h0 i)
 have HTF := Lib.hid (fun W => l03Times_ok p m (eu p m d 9 F0 G0 (sng 0 oneP) (fun _ _ => 0)).2 F0 W hpr lm d hd hd1 hd9 (fun i hi8 => (e2 i hi8).1) hF hfit)
 have hMO : 0 ≤ skD (tmP p m d (eu p m d 9 F0 G0 (sng 0 oneP) (fun _ _ => 0)).2 F0) := by
  have := tmP_deg hpr lm hmon hi hd9 e2 hF (a := (skD (eu p m d 9 F0 G0 (sng 0 oneP) (fun _ _ => 0)).2).toNat) (b := (skD F0).toNat) (by omega) (by omega) (by omega)
  omega
 have HMO := Lib.hid (fun W => l03Monic_any p m (tmP p m d (eu p m d 9 F0 G0 (sng 0 oneP) (fun _ _ => 0)).2 F0) W hpr lm d hmon hi hd9 (fun i _ => tmP_rsd hpr lm h0 i) hMO)
 clear e1 e2 e3 e4 hD0 hmd hF hG hF0 hG0 hfit hd hd1 h0 h9 hmon hi lm hpr g7 hMO
 go_enter Try.func11, Try.ntmps11
 go_upto_region 1 with (fail)
 rw [← zero512]
 obtain ⟨W1, hwo⟩ : ∃ v : World, v = ((((w.alloc (.cells (zb 64 (m)) 24)).alloc (.cells (zb 512 (fl 64 F0)) 26)).alloc (.cells (zb 512 (fl 64 G0)) 26)).alloc (.cells (zb 512 (fl 64 (fun _ _ => 0))) 26)) := ⟨_, rfl⟩
 have B0 : Blk W1 (w.heap.size) 64 24 (m) := by subst hwo; have := ((((Blk.new w 64 24 (m)).alloc (.cells (zb 512 (fl 64 F0)) 26)).alloc (.cells (zb 512 (fl 64 G0)) 26)).alloc (.cells (zb 512 (fl 64 (fun _ _ => 0))) 26)); simpa using this
 have B1 : Blk W1 (w.heap.size + 1) 512 26 (fl 64 F0) := by subst hwo; have := (((Blk.new (w.alloc (.cells (zb 64 (m)) 24)) 512 26 (fl 64 F0)).alloc (.cells (zb 512 (fl 64 G0)) 26)).alloc (.cells (zb 512 (fl 64 (fun _ _ => 0))) 26)); simpa using this
 have B2 : Blk W1 (w.heap.size + 1 + 1) 512 26 (fl 64 G0) := by subst hwo; have := ((Blk.new ((w.alloc (.cells (zb 64 (m)) 24)).alloc (.cells (zb 512 (fl 64 F0)) 26)) 512 26 (fl 64 G0)).alloc (.cells (zb 512 (fl 64 (fun _ _ => 0))) 26)); simpa using this
 have B3 : Blk W1 (w.heap.size + 1 + 1 + 1) 512 26 (fl 64 (fun _ _ => 0)) := by subst hwo; have := (Blk.new (((w.alloc (.cells (zb 64 (m)) 24)).alloc (.cells (zb 512 (fl 64 F0)) 26)).alloc (.cells (zb 512 (fl 64 G0)) 26)) 512 26 (fl 64 (fun _ _ => 0))); simpa using this
 have hb : Below w.heap.size w W1 := by subst hwo; exact (((((Below.refl _ _).alloc (Nat.le_refl _) _).alloc (by simp) _).alloc (by simp; omega) _).alloc (by simp; omega) _)
 rw [← hwo]
 clear hwo
 refine zq Try.mixed (by kernel_rfl) (by kernel_rfl) (fun v => by (simp only [frL, Act.put, pA, pB, pC, Nat.reduceAdd, Nat.zero_add]; exact rfl))
  (fun L v W2 => Below W1.heap.size W1 W2 ∧ VF L v [some (.agg (zb 512 (fl 64 F0))), some (.int .i64 (skD F0)), some (.agg (zb 512 (fl 64 G0))), some (.int .i64 (skD G0)), some (.int .i64 (skD F0 + skD G0)), some (.int .i64 (p : Int)), some (.agg (zb 64 (m))), some (.agg (zb 512 (fl 64 F0))), some (.agg (zb 512 (fl 64 G0))), some (.agg (zb 512 (fl 64 (moS p m (eD p m d 9 F0 G0))))), some (.int .i64 (skD (eD p m d 9 F0 G0))), some (.int .i64 (skD F0 + skD G0 - skD (eD p m d 9 F0 G0))), some (.bool false)]) ?_ ?_ ?_
 · intro v hv0
   exact ⟨(Below.refl _ W1).drew, VF.start⟩
 · refine (.cons rfl ?_ (.cons rfl ?_ (.cons rfl ?_ (.cons rfl ?_ (.cons rfl ?_ (.cons rfl ?_ (.cons rfl ?_ (.cons rfl ?_ (.cons rfl ?_ (.cons rfl ?_ (.cons rfl ?_ (.cons rfl ?_ (.cons rfl ?_ (.nil _))))))))))))))
   all_goals intro L v W2 hd hn ⟨hY, V⟩ K hK
   · refine zlc (B1.zw hY) Try.underlying26 Try.size26 ?_
     exact hK _ _ _ rfl ⟨hY, V.step 0 rfl⟩
   · have e0 := V.at (zdq hd 0 rfl) rfl
     go_wp2_with (go_at_call 10; refine (l03Deg_any F0 _).mono ?_; rintro e wy ⟨rfl, hy⟩)
     exact hK _ (.int .i64 (skD F0)) _ (by simp only [Act.put, pA, pB, pC, e0]) ⟨hY.trans (hy.mono hY.size), V.step 1 rfl⟩
   · refine zlc (B2.zw hY) Try.underlying26 Try.size26 ?_
     exact hK _ _ _ rfl ⟨hY, V.step 2 rfl⟩
   · have e2 := V.at (zdq hd 2 rfl) rfl
     go_wp2_with (go_at_call 10; refine (l03Deg_any G0 _).mono ?_; rintro e wy ⟨rfl, hy⟩)
     exact hK _ (.int .i64 (skD G0)) _ (by simp only [Act.put, pA, pB, pC, e2]) ⟨hY.trans (hy.mono hY.size), V.step 3 rfl⟩
   · have e1 := V.at (zdq hd 1 rfl) rfl
     have e3 := V.at (zdq hd 3 rfl) rfl
     go_wp2_with fail
     exact hK _ (.int .i64 (skD F0 + skD G0)) _ (by simp only [Act.put, pA, pB, pC, e1, e3]) ⟨hY, V.step 4 rfl⟩
   · go_wp2_with fail
     exact hK _ (.int .i64 (p : Int)) _ (by simp only [Act.put, pA, pB, pC ]) ⟨hY, V.step 5 rfl⟩
   · refine zlc (B0.zw hY) Try.underlying24 Try.size24 ?_
     exact hK _ _ _ rfl ⟨hY, V.step 6 rfl⟩
   · refine zlc (B1.zw hY) Try.underlying26 Try.size26 ?_
     exact hK _ _ _ rfl ⟨hY, V.step 7 rfl⟩
   · refine zlc (B2.zw hY) Try.underlying26 Try.size26 ?_
     exact hK _ _ _ rfl ⟨hY, V.step 8 rfl⟩
   · have e5 := V.at (zdq hd 5 rfl) rfl
     have e6 := V.at (zdq hd 6 rfl) rfl
     have e7 := V.at (zdq hd 7 rfl) rfl
     have e8 := V.at (zdq hd 8 rfl) rfl
     go_wp2_with (go_at_call 20; refine (HDI.out _).mono ?_; rintro e wy ⟨rfl, hy⟩)
     exact hK _ (.agg (zb 512 (fl 64 (moS p m (eD p m d 9 F0 G0))))) _ (by simp only [Act.put, pA, pB, pC, e5, e6, e7, e8]) ⟨hY.trans (hy.mono hY.size), V.step 9 rfl⟩
   · have e9 := V.at (zdq hd 9 rfl) rfl
     go_wp2_with (go_at_call 10; refine (HDD.out _).mono ?_; rintro e wy ⟨rfl, hy⟩)
     exact hK _ (.int .i64 (skD (eD p m d 9 F0 G0))) _ (by simp only [Act.put, pA, pB, pC, e9]) ⟨hY.trans (hy.mono hY.size), V.step 10 rfl⟩
   · have e4 := V.at (zdq hd 4 rfl) rfl
     have e10 := V.at (zdq hd 10 rfl) rfl
     go_wp2_with fail
     exact hK _ (.int .i64 (skD F0 + skD G0 - skD (eD p m d 9 F0 G0))) _ (by simp only [Act.put, pA, pB, pC, e4, e10]) ⟨hY, V.step 11 rfl⟩
   have e11 := V.at (zdq hd 11 rfl) rfl
   go_wp2_with fail
   try rw [show decide (7 < skD F0 + skD G0 - skD (eD p m d 9 F0 G0)) = false by simp; omega]
   exact hK _ (.bool false) _ (by simp only [Act.put, pA, pB, pC, e11]) ⟨hY, V.step 12 rfl⟩
 intro L v W2 hL ⟨hY, V⟩
 have e0 := V.at (hL 0 (by decide)) rfl
 have e1 := V.at (hL 1 (by decide)) rfl
 have e2 := V.at (hL 2 (by decide)) rfl
 have e3 := V.at (hL 3 (by decide)) rfl
 have e4 := V.at (hL 4 (by decide)) rfl
 have e5 := V.at (hL 5 (by decide)) rfl
 have e6 := V.at (hL 6 (by decide)) rfl
 have e7 := V.at (hL 7 (by decide)) rfl
 have e8 := V.at (hL 8 (by decide)) rfl
 have e9 := V.at (hL 9 (by decide)) rfl
 have e10 := V.at (hL 10 (by decide)) rfl
 have e11 := V.at (hL 11 (by decide)) rfl
 have e12 := V.at (hL 12 (by decide)) rfl
 clear hL V
 replace B0 := B0.zw hY
 replace B1 := B1.zw hY
 replace B2 := B2.zw hY
 replace B3 := B3.zw hY
 replace hb := hb.trans (hY.mono hb.size)
 clear hY
 simp only [Exit.then, e0, e1, e2, e3, e4, e5, e6, e7, e8, e9, e10, e11, e12]
 clear e0 e1 e2 e3 e4 e5 e6 e7 e8 e9 e10 e11 e12
 clear hgt
 go_upto_region 3 with (fail)
 have lt_B0 : (w.heap.size) < W2.heap.size := B0.lt
 have lt_B1 : (w.heap.size + 1) < W2.heap.size := B1.lt
 have lt_B2 : (w.heap.size + 1 + 1) < W2.heap.size := B2.lt
 have lt_B3 : (w.heap.size + 1 + 1 + 1) < W2.heap.size := B3.lt
 refine zq Try.mixed (by kernel_rfl) (by kernel_rfl) (fun v => by (simp only [frL, Act.put, pA, pB, pC, Nat.reduceAdd, Nat.zero_add]; exact rfl))
  (fun L v W3 => Below W2.heap.size W2 W3 ∧ (L 4 = true → AF (v 4) W3 W2.heap.size 512 26) ∧ (L 5 = true → AF (v 5) W3 W2.heap.size 512 26) ∧ (L 6 = true → AF (v 6) W3 W2.heap.size 512 26) ∧ (L 7 = true → AF (v 7) W3 W2.heap.size 512 26) ∧ (L 8 = true → PF (v 4) W3 W2.heap.size 512 26 (fl 64 F0)) ∧ (L 9 = true → PF (v 5) W3 W2.heap.size 512 26 (fl 64 G0)) ∧ (L 10 = true → PF (v 6) W3 W2.heap.size 512 26 (fl 64 (sng 0 oneP))) ∧ (L 11 = true → PF (v 7) W3 W2.heap.size 512 26 (fl 64 (fun _ _ => 0))) ∧ (L 4 = true → L 5 = true → v 4 ≠ v 5) ∧ (L 4 = true → L 6 = true → v 4 ≠ v 6) ∧ (L 4 = true → L 7 = true → v 4 ≠ v 7) ∧ (L 5 = true → L 6 = true → v 5 ≠ v 6) ∧ (L 5 = true → L 7 = true → v 5 ≠ v 7) ∧ (L 6 = true → L 7 = true → v 6 ≠ v 7) ∧ VF L v [some (.agg (zb 512 (fl 64 F0))), some (.agg (zb 512 (fl 64 G0))), some (.agg (zb 512 (fl 64 (sng 0 oneP)))), some (.agg (zb 512 (fl 64 (fun _ _ => 0)))), none, none, none, none, none, none, none, none]) ?_ ?_ ?_
 · intro v hv0
   exact ⟨(Below.refl _ W2).drew, (fun h => by cases h), (fun h => by cases h), (fun h => by cases h), (fun h => by cases h), (fun h => by cases h), (fun h => by cases h), (fun h => by cases h), (fun h => by cases h), (fun h => by cases h), (fun h => by cases h), (fun h => by cases h), (fun h => by cases h), (fun h => by cases h), (fun h => by cases h), VF.start⟩
 · refine (.cons rfl ?_ (.cons rfl ?_ (.cons rfl ?_ (.cons rfl ?_ (.cons rfl ?_ (.cons rfl ?_ (.cons rfl ?_ (.cons rfl ?_ (.cons rfl ?_ (.cons rfl ?_ (.cons rfl ?_ (.cons rfl ?_ (.nil _)))))))))))))
   all_goals intro L v W3 hd hn ⟨hY, h4, h5, h6, h7, h8, h9, h10, h11, d4_5, d4_6, d4_7, d5_6, d5_7, d6_7, V⟩ K hK
   · refine zlc (B1.zw hY) Try.underlying26 Try.size26 ?_
     exact hK _ _ _ rfl ⟨hY, h4, h5, h6, h7, h8, h9, h10, h11, d4_5, d4_6, d4_7, d5_6, d5_7, d6_7, V.step 0 rfl⟩
   · refine zlc (B2.zw hY) Try.underlying26 Try.size26 ?_
     exact hK _ _ _ rfl ⟨hY, h4, h5, h6, h7, h8, h9, h10, h11, d4_5, d4_6, d4_7, d5_6, d5_7, d6_7, V.step 1 rfl⟩
   · go_wp2_with (go_at_call 21; refine (l03One_any _).mono ?_; rintro e wy ⟨rfl, hy⟩)
     exact hK _ (.agg (zb 512 (fl 64 (sng 0 oneP)))) _ (by simp only [Act.put, pA, pB, pC ]) ⟨hY.trans (hy.mono hY.size), (fun h => (h4 h).below hy), (fun h => (h5 h).below hy), (fun h => (h6 h).below hy), (fun h => (h7 h).below hy), (fun h => (h8 h).below hy), (fun h => (h9 h).below hy), (fun h => (h10 h).below hy), (fun h => (h11 h).below hy), d4_5, d4_6, d4_7, d5_6, d5_7, d6_7, V.step 2 rfl⟩
   · go_wp2_with fail
     rw [← zero512]
     exact hK _ (.agg (zb 512 (fl 64 (fun _ _ => 0)))) _ (by simp only [Act.put, pA, pB, pC ]) ⟨hY, h4, h5, h6, h7, h8, h9, h10, h11, d4_5, d4_6, d4_7, d5_6, d5_7, d6_7, V.step 3 rfl⟩
   · go_wp2_with fail
     rw [← zero512]
     exact hK _ (.pointer (some ⟨W3.heap.size, 0, none⟩)) _ (by simp only [Act.put, pA, pB, pC ]) ⟨hY.alloc hY.size _, (fun _ => (PF.new W3 512 26 _ hY.size).af), (fun h => (h5 h).below (zal _ _)), (fun h => (h6 h).below (zal _ _)), (fun h => (h7 h).below (zal _ _)), (fun h => absurd rfl (hn 8 _ rfl h ⟨4, .data⟩ (by simp) rfl)), (fun h => (h9 h).below (zal _ _)), (fun h => (h10 h).below (zal _ _)), (fun h => (h11 h).below (zal _ _)), (fun h g1 => Ne.symm ((h5 g1).ne_new)), (fun h g1 => Ne.symm ((h6 g1).ne_new)), (fun h g1 => Ne.symm ((h7 g1).ne_new)), d5_6, d5_7, d6_7, V.skip 4 rfl⟩
   · go_wp2_with fail
     rw [← zero512]
     exact hK _ (.pointer (some ⟨W3.heap.size, 0, none⟩)) _ (by simp only [Act.put, pA, pB, pC ]) ⟨hY.alloc hY.size _, (fun h => (h4 h).below (zal _ _)), (fun _ => (PF.new W3 512 26 _ hY.size).af), (fun h => (h6 h).below (zal _ _)), (fun h => (h7 h).below (zal _ _)), (fun h => (h8 h).below (zal _ _)), (fun h => absurd rfl (hn 9 _ rfl h ⟨5, .data⟩ (by simp) rfl)), (fun h => (h10 h).below (zal _ _)), (fun h => (h11 h).below (zal _ _)), (fun h g1 => (h4 h).ne_new), d4_6, d4_7, (fun h g1 => Ne.symm ((h6 g1).ne_new)), (fun h g1 => Ne.symm ((h7 g1).ne_new)), d6_7, V.skip 5 rfl⟩
   · go_wp2_with fail
     rw [← zero512]
     exact hK _ (.pointer (some ⟨W3.heap.size, 0, none⟩)) _ (by simp only [Act.put, pA, pB, pC ]) ⟨hY.alloc hY.size _, (fun h => (h4 h).below (zal _ _)), (fun h => (h5 h).below (zal _ _)), (fun _ => (PF.new W3 512 26 _ hY.size).af), (fun h => (h7 h).below (zal _ _)), (fun h => (h8 h).below (zal _ _)), (fun h => (h9 h).below (zal _ _)), (fun h => absurd rfl (hn 10 _ rfl h ⟨6, .data⟩ (by simp) rfl)), (fun h => (h11 h).below (zal _ _)), d4_5, (fun h g1 => (h4 h).ne_new), d4_7, (fun h g1 => (h5 h).ne_new), d5_7, (fun h g1 => Ne.symm ((h7 g1).ne_new)), V.skip 6 rfl⟩
   · go_wp2_with fail
     rw [← zero512]
     exact hK _ (.pointer (some ⟨W3.heap.size, 0, none⟩)) _ (by simp only [Act.put, pA, pB, pC ]) ⟨hY.alloc hY.size _, (fun h => (h4 h).below (zal _ _)), (fun h => (h5 h).below (zal _ _)), (fun h => (h6 h).below (zal _ _)), (fun _ => (PF.new W3 512 26 _ hY.size).af), (fun h => (h8 h).below (zal _ _)), (fun h => (h9 h).below (zal _ _)), (fun h => (h10 h).below (zal _ _)), (fun h => absurd rfl (hn 11 _ rfl h ⟨7, .data⟩ (by simp) rfl)), d4_5, d4_6, (fun h g1 => (h4 h).ne_new), d5_6, (fun h g1 => (h5 h).ne_new), (fun h g1 => (h6 h).ne_new), V.skip 7 rfl⟩
   · have e0 := V.at (zdq hd 0 rfl) rfl
     obtain ⟨gz, b, ea, hN, hk⟩ := (h4 (zdq hd 4 rfl)).out
     refine zsb 26 _ _ rfl b 512 (fl 64 F0) ea e0 26 gz hk Try.size26 ?_
     exact hK _ undef _ rfl ⟨zr hY hN _, (fun h => (h4 h).row hk), (fun h => (h5 h).row hk), (fun h => (h6 h).row hk), (fun h => (h7 h).row hk), (fun _ => by rw [show updV v 8 undef 4 = v 4 from rfl, ea]; exact PF.row hk hN _), (fun h => (h9 h).rowOther (by rw [← ea]; exact (Ne.symm (d4_5 (zdq hd 4 rfl) (zdq hd 5 rfl))))), (fun h => (h10 h).rowOther (by rw [← ea]; exact (Ne.symm (d4_6 (zdq hd 4 rfl) (zdq hd 6 rfl))))), (fun h => (h11 h).rowOther (by rw [← ea]; exact (Ne.symm (d4_7 (zdq hd 4 rfl) (zdq hd 7 rfl))))), d4_5, d4_6, d4_7, d5_6, d5_7, d6_7, V.skip 8 rfl⟩
   · have e1 := V.at (zdq hd 1 rfl) rfl
     obtain ⟨gz, b, ea, hN, hk⟩ := (h5 (zdq hd 5 rfl)).out
     refine zsb 26 _ _ rfl b 512 (fl 64 G0) ea e1 26 gz hk Try.size26 ?_
     exact hK _ undef _ rfl ⟨zr hY hN _, (fun h => (h4 h).row hk), (fun h => (h5 h).row hk), (fun h => (h6 h).row hk), (fun h => (h7 h).row hk), (fun h => (h8 h).rowOther (by rw [← ea]; exact (d4_5 (zdq hd 4 rfl) (zdq hd 5 rfl)))), (fun _ => by rw [show updV v 9 undef 5 = v 5 from rfl, ea]; exact PF.row hk hN _), (fun h => (h10 h).rowOther (by rw [← ea]; exact (Ne.symm (d5_6 (zdq hd 5 rfl) (zdq hd 6 rfl))))), (fun h => (h11 h).rowOther (by rw [← ea]; exact (Ne.symm (d5_7 (zdq hd 5 rfl) (zdq hd 7 rfl))))), d4_5, d4_6, d4_7, d5_6, d5_7, d6_7, V.skip 9 rfl⟩
   · have e2 := V.at (zdq hd 2 rfl) rfl
     obtain ⟨gz, b, ea, hN, hk⟩ := (h6 (zdq hd 6 rfl)).out
     refine zsb 26 _ _ rfl b 512 (fl 64 (sng 0 oneP)) ea e2 26 gz hk Try.size26 ?_
     exact hK _ undef _ rfl ⟨zr hY hN _, (fun h => (h4 h).row hk), (fun h => (h5 h).row hk), (fun h => (h6 h).row hk), (fun h => (h7 h).row hk), (fun h => (h8 h).rowOther (by rw [← ea]; exact (d4_6 (zdq hd 4 rfl) (zdq hd 6 rfl)))), (fun h => (h9 h).rowOther (by rw [← ea]; exact (d5_6 (zdq hd 5 rfl) (zdq hd 6 rfl)))), (fun _ => by rw [show updV v 10 undef 6 = v 6 from rfl, ea]; exact PF.row hk hN _), (fun h => (h11 h).rowOther (by rw [← ea]; exact (Ne.symm (d6_7 (zdq hd 6 rfl) (zdq hd 7 rfl))))), d4_5, d4_6, d4_7, d5_6, d5_7, d6_7, V.skip 10 rfl⟩
   have e3 := V.at (zdq hd 3 rfl) rfl
   obtain ⟨gz, b, ea, hN, hk⟩ := (h7 (zdq hd 7 rfl)).out
   refine zsb 26 _ _ rfl b 512 (fl 64 (fun _ _ => 0)) ea e3 26 gz hk Try.size26 ?_
   exact hK _ undef _ rfl ⟨zr hY hN _, (fun h => (h4 h).row hk), (fun h => (h5 h).row hk), (fun h => (h6 h).row hk), (fun h => (h7 h).row hk), (fun h => (h8 h).rowOther (by rw [← ea]; exact (d4_7 (zdq hd 4 rfl) (zdq hd 7 rfl)))), (fun h => (h9 h).rowOther (by rw [← ea]; exact (d5_7 (zdq hd 5 rfl) (zdq hd 7 rfl)))), (fun h => (h10 h).rowOther (by rw [← ea]; exact (d6_7 (zdq hd 6 rfl) (zdq hd 7 rfl)))), (fun _ => by rw [show updV v 11 undef 7 = v 7 from rfl, ea]; exact PF.row hk hN _), d4_5, d4_6, d4_7, d5_6, d5_7, d6_7, V.skip 11 rfl⟩
 intro L v W3 hL ⟨hY, h4, h5, h6, h7, h8, h9, h10, h11, d4_5, d4_6, d4_7, d5_6, d5_7, d6_7, V⟩
 obtain ⟨k3_4, e4, hNk3_4, hk3_4⟩ := (h8 (hL 8 (by decide))).out
 obtain ⟨k3_5, e5, hNk3_5, hk3_5⟩ := (h9 (hL 9 (by decide))).out
 obtain ⟨k3_6, e6, hNk3_6, hk3_6⟩ := (h10 (hL 10 (by decide))).out
 obtain ⟨k3_7, e7, hNk3_7, hk3_7⟩ := (h11 (hL 11 (by decide))).out
 have n4_5 := d4_5 (hL 4 (by decide)) (hL 5 (by decide))
 have n4_6 := d4_6 (hL 4 (by decide)) (hL 6 (by decide))
 have n4_7 := d4_7 (hL 4 (by decide)) (hL 7 (by decide))
 have n5_6 := d5_6 (hL 5 (by decide)) (hL 6 (by decide))
 have n5_7 := d5_7 (hL 5 (by decide)) (hL 7 (by decide))
 have n6_7 := d6_7 (hL 6 (by decide)) (hL 7 (by decide))
 have e0 := V.at (hL 0 (by decide)) rfl
 have e1 := V.at (hL 1 (by decide)) rfl
 have e2 := V.at (hL 2 (by decide)) rfl
 have e3 := V.at (hL 3 (by decide)) rfl
 clear hL h4 h5 h6 h7 h8 h9 h10 h11 d4_5 d4_6 d4_7 d5_6 d5_7 d6_7 V
 replace B0 := B0.zw hY
 replace B1 := B1.zw hY
 replace B2 := B2.zw hY
 replace B3 := B3.zw hY
 replace hb := hb.trans (hY.mono hb.size)
 clear hY
 rw [e4, e5] at n4_5
 have mk3_4_5 : k3_4 ≠ k3_5 := fun h => n4_5 (by rw [h])
 clear n4_5
 rw [e4, e6] at n4_6
 have mk3_4_6 : k3_4 ≠ k3_6 := fun h => n4_6 (by rw [h])
 clear n4_6
 rw [e4, e7] at n4_7
 have mk3_4_7 : k3_4 ≠ k3_7 := fun h => n4_7 (by rw [h])
 clear n4_7
 rw [e5, e6] at n5_6
 have mk3_5_6 : k3_5 ≠ k3_6 := fun h => n5_6 (by rw [h])
 clear n5_6
 rw [e5, e7] at n5_7
 have mk3_5_7 : k3_5 ≠ k3_7 := fun h => n5_7 (by rw [h])
 clear n5_7
 rw [e6, e7] at n6_7
 have mk3_6_7 : k3_6 ≠ k3_7 := fun h => n6_7 (by rw [h])
 clear n6_7
 simp only [Exit.then, e4, e5, e6, e7, e0, e1, e2, e3]
 clear e4 e5 e6 e7 e0 e1 e2 e3
 have B4 := hk3_4
 clear hk3_4
 have zk3_4_0 : w.heap.size < k3_4 := by omega
 have zk3_4_1 : w.heap.size + 1 < k3_4 := by omega
 have zk3_4_2 : w.heap.size + 1 + 1 < k3_4 := by omega
 have zk3_4_3 : w.heap.size + 1 + 1 + 1 < k3_4 := by omega
 have B5 := hk3_5
 clear hk3_5
 have zk3_5_0 : w.heap.size < k3_5 := by omega
 have zk3_5_1 : w.heap.size + 1 < k3_5 := by omega
 have zk3_5_2 : w.heap.size + 1 + 1 < k3_5 := by omega
 have zk3_5_3 : w.heap.size + 1 + 1 + 1 < k3_5 := by omega
 have B6 := hk3_6
 clear hk3_6
 have zk3_6_0 : w.heap.size < k3_6 := by omega
 have zk3_6_1 : w.heap.size + 1 < k3_6 := by omega
 have zk3_6_2 : w.heap.size + 1 + 1 < k3_6 := by omega
 have zk3_6_3 : w.heap.size + 1 + 1 + 1 < k3_6 := by omega
 have B7 := hk3_7
 clear hk3_7
 have zk3_7_0 : w.heap.size < k3_7 := by omega
 have zk3_7_1 : w.heap.size + 1 < k3_7 := by omega
 have zk3_7_2 : w.heap.size + 1 + 1 < k3_7 := by omega
 have zk3_7_3 : w.heap.size + 1 + 1 + 1 < k3_7 := by omega
 clear lt_B0 lt_B1 lt_B2 lt_B3
 go_wp2_with fail
 go_loopw [14] (fun _ wr => ∃ (fu : Nat) (A B U Vv : Nat → Nat → Nat), Hid (eu p m d fu A B U Vv = eu p m d 9 F0 G0 (sng 0 oneP) (fun _ _ => 0) ∧ skD B < (fu : Int) ∧ EI p m A B U Vv (skD G0)) ∧ Below w.heap.size w wr ∧ Blk wr (w.heap.size) 64 24 m ∧ Blk wr (w.heap.size + 1) 512 26 (fl 64 F0) ∧ Blk wr (w.heap.size + 1 + 1) 512 26 (fl 64 G0) ∧ Blk wr (w.heap.size + 1 + 1 + 1) 512 26 (fl 64 (fun _ _ => 0)) ∧ Blk wr (k3_4) 512 26 (fl 64 A) ∧ Blk wr (k3_5) 512 26 (fl 64 B) ∧ Blk wr (k3_6) 512 26 (fl 64 U) ∧ Blk wr (k3_7) 512 26 (fl 64 Vv)) (fun _ wr => skAt wr (k3_5))
 case atStart => exact ⟨9, _, _, _, _, Lib.hid ⟨rfl, HI0.out.1, HI0.out.2⟩, hb, B0, B1, B2, B3, B4, B5, B6, B7⟩
 case round =>
  clear hb B0 B1 B2 B3 B4 B5 B6 B7 HI0
  obtain ⟨fu, A, B, U, Vv, hI, hb, B0, B1, B2, B3, B4, B5, B6, B7⟩ := hrel
  have BF0 := Lib.hid B5
  by_cases hz : skD B < 0
  · have hzI : ¬ (skD B ≥ 0) := by omega
    have HV := Lib.hid (show (A, Vv) = eu p m d 9 F0 G0 (sng 0 oneP) (fun _ _ => 0) by rw [← hI.out.1, eu_stop hz])
    have HV2 := Lib.hid (show Vv = (eu p m d 9 F0 G0 (sng 0 oneP) (fun _ _ => 0)).2 by rw [← HV.out])
    clear hI
    have HK1 := Lib.hid (show ∀ W, Calls Try.prog 23 #[.int .i64 (p : Int), .agg (zb 64 m), .agg (zb 512 (fl 64 Vv)), .agg (zb 512 (fl 64 F0))] W fun e w' => e = .returned (.tuple #[.agg (zb 512 (fl 64 (tmP p m d (eu p m d 9 F0 G0 (sng 0 oneP) (fun _ _ => 0)).2 F0))), .bool true]) ∧ Below W.heap.size W w' from fun W => by rw [HV2.out]; exact HTF.out W)
    go_upto_region 12 with (first | (refine zla (.tmp 11) B5 Try.underlying26 Try.size26 ?_) | (go_at_call 10; refine (l03Deg_any B _).mono ?_; rintro e W4 ⟨rfl, hW4⟩; replace B0 := B0.zw hW4; replace B1 := B1.zw hW4; replace B2 := B2.zw hW4; replace B3 := B3.zw hW4; replace B4 := B4.zw hW4; replace B5 := B5.zw hW4; replace B6 := B6.zw hW4; replace B7 := B7.zw hW4; replace hb := (hb).trans (hW4.mono (hb).size)))
    have lt_B0 := B0.lt
    have lt_B1 := B1.lt
    have lt_B2 := B2.lt
    have lt_B3 := B3.lt
    have lt_B4 := B4.lt
    have lt_B5 := B5.lt
    have lt_B6 := B6.lt
    have lt_B7 := B7.lt
    go_upto_region 13 with (first | rw [← z64] | rw [← zero512] | (refine zla (.tmp 5) B0 Try.underlying24 Try.size24 ?_) | (refine zla (.tmp 13) B7 Try.underlying26 Try.size26 ?_) | (refine zla (.tmp 6) B1 Try.underlying26 Try.size26 ?_) | (go_at_call 23; refine (HK1.out _).mono ?_; rintro e W5 ⟨rfl, hW5⟩; replace B0 := B0.zw hW5; replace B1 := B1.zw hW5; replace B2 := B2.zw hW5; replace B3 := B3.zw hW5; replace B4 := B4.zw hW5; replace B5 := B5.zw hW5; replace B6 := B6.zw hW5; replace B7 := B7.zw hW5; replace hb := (hb).trans (hW5.mono (hb).size)) | (refine wpList_store_blk rfl 26 (.tmp 19) (.tmp 72) rfl _ 512 (fl 64 (tmP p m d (eu p m d 9 F0 G0 (sng 0 oneP) (fun _ _ => 0)).2 F0)) rfl rfl 26 _ ((Blk.new W5 512 26 (fl 64 (fun _ _ => 0)))) Try.size26 ?_; try simp only [Act.put]; go_upto_region 13 with (fail)))
    have lt_B0 := B0.lt
    have lt_B1 := B1.lt
    have lt_B2 := B2.lt
    have lt_B3 := B3.lt
    have lt_B4 := B4.lt
    have lt_B5 := B5.lt
    have lt_B6 := B6.lt
    have lt_B7 := B7.lt
    have lhb := hb.size
    obtain ⟨W6, hwo, hzQ⟩ : ∃ v : World, v = ((W5.alloc (.cells (zb 512 (fl 64 (fun _ _ => 0))) 26)).setRow (W5.heap.size) (zb 512 (fl 64 (tmP p m d (eu p m d 9 F0 G0 (sng 0 oneP) (fun _ _ => 0)).2 F0)))) ∧ Blk v (w.heap.size) 64 24 (m) ∧ Blk v (w.heap.size + 1) 512 26 (fl 64 F0) ∧ Blk v (w.heap.size + 1 + 1) 512 26 (fl 64 G0) ∧ Blk v (w.heap.size + 1 + 1 + 1) 512 26 (fl 64 (fun _ _ => 0)) ∧ Blk v (k3_4) 512 26 (fl 64 A) ∧ Blk v (k3_5) 512 26 (fl 64 B) ∧ Blk v (k3_6) 512 26 (fl 64 U) ∧ Blk v (k3_7) 512 26 (fl 64 Vv) ∧ Blk v (W5.heap.size) 512 26 (fl 64 (tmP p m d (eu p m d 9 F0 G0 (sng 0 oneP) (fun _ _ => 0)).2 F0)) ∧ Below w.heap.size w v := ⟨_, rfl, ((B0.alloc (.cells (zb 512 (fl 64 (fun _ _ => 0))) 26)).rowOther (by omega)), ((B1.alloc (.cells (zb 512 (fl 64 (fun _ _ => 0))) 26)).rowOther (by omega)), ((B2.alloc (.cells (zb 512 (fl 64 (fun _ _ => 0))) 26)).rowOther (by omega)), ((B3.alloc (.cells (zb 512 (fl 64 (fun _ _ => 0))) 26)).rowOther (by omega)), ((B4.alloc (.cells (zb 512 (fl 64 (fun _ _ => 0))) 26)).rowOther (by omega)), ((B5.alloc (.cells (zb 512 (fl 64 (fun _ _ => 0))) 26)).rowOther (by omega)), ((B6.alloc (.cells (zb 512 (fl 64 (fun _ _ => 0))) 26)).rowOther (by omega)), ((B7.alloc (.cells (zb 512 (fl 64 (fun _ _ => 0))) 26)).rowOther (by omega)), ((Blk.new W5 512 26 (fl 64 (fun _ _ => 0))).row (fl 64 (tmP p m d (eu p m d 9 F0 G0 (sng 0 oneP) (fun _ _ => 0)).2 F0))), (zr (hb.alloc (by have := hb.size; simp; omega) (.cells (zb 512 (fl 64 (fun _ _ => 0))) 26)) (by omega) _)⟩
    rw [← hwo]
    clear hwo B0 B1 B2 B3 B4 B5 B6 B7 hb
    obtain ⟨B0, B1, B2, B3, B4, B5, B6, B7, B8, hb⟩ := hzQ
    obtain ⟨N1, hNN⟩ : ∃ n : Nat, n = W5.heap.size := ⟨_, rfl⟩
    rw [← hNN] at lt_B0 lt_B1 lt_B2 lt_B3 lt_B4 lt_B5 lt_B6 lt_B7 lhb B8 ⊢
    clear hNN
    have zN1_0 := lt_B0
    have zN1_1 := lt_B1
    have zN1_2 := lt_B2
    have zN1_3 := lt_B3
    have zN1_4 := lt_B4
    have zN1_5 := lt_B5
    have zN1_6 := lt_B6
    have zN1_7 := lt_B7
    have zN1 := lhb
    clear lt_B0 lt_B1 lt_B2 lt_B3 lt_B4 lt_B5 lt_B6 lt_B7 lhb
    try simp only [Act.put, pA, pB, pC]
    have lt_B0 := B0.lt
    have lt_B1 := B1.lt
    have lt_B2 := B2.lt
    have lt_B3 := B3.lt
    have lt_B4 := B4.lt
    have lt_B5 := B5.lt
    have lt_B6 := B6.lt
    have lt_B7 := B7.lt
    have lt_B8 := B8.lt
    go_wp2_with (first | rw [← z64] | rw [← zero512] | (refine zla (.tmp 5) B0 Try.underlying24 Try.size24 ?_) | (refine zla (.tmp 19) B8 Try.underlying26 Try.size26 ?_) | (go_at_call 25; refine (HMO.out _).mono ?_; rintro e W7 ⟨rfl, hW7⟩; replace B0 := B0.zw hW7; replace B1 := B1.zw hW7; replace B2 := B2.zw hW7; replace B3 := B3.zw hW7; replace B4 := B4.zw hW7; replace B5 := B5.zw hW7; replace B6 := B6.zw hW7; replace B7 := B7.zw hW7; replace B8 := B8.zw hW7; replace hb := (hb).trans (hW7.mono (hb).size)) | (refine zsr (.tmp 8) (.tmp 77) (fl 64 (moS p m (tmP p m d (eu p m d 9 F0 G0 (sng 0 oneP) (fun _ _ => 0)).2 F0))) B3 Try.size26 ?_; try simp only [Act.put]; go_wp2_with fail))
    obtain ⟨W8, hwo, hzQ⟩ : ∃ v : World, v = (W7.setRow (w.heap.size + 1 + 1 + 1) (zb 512 (fl 64 (moS p m (tmP p m d (eu p m d 9 F0 G0 (sng 0 oneP) (fun _ _ => 0)).2 F0))))) ∧ Blk v (w.heap.size) 64 24 (m) ∧ Blk v (w.heap.size + 1) 512 26 (fl 64 F0) ∧ Blk v (w.heap.size + 1 + 1) 512 26 (fl 64 G0) ∧ Blk v (w.heap.size + 1 + 1 + 1) 512 26 (fl 64 (moS p m (tmP p m d (eu p m d 9 F0 G0 (sng 0 oneP) (fun _ _ => 0)).2 F0))) ∧ Blk v (k3_4) 512 26 (fl 64 A) ∧ Blk v (k3_5) 512 26 (fl 64 B) ∧ Blk v (k3_6) 512 26 (fl 64 U) ∧ Blk v (k3_7) 512 26 (fl 64 Vv) ∧ Blk v (N1) 512 26 (fl 64 (tmP p m d (eu p m d 9 F0 G0 (sng 0 oneP) (fun _ _ => 0)).2 F0)) ∧ Below w.heap.size w v := ⟨_, rfl, (B0.rowOther (by omega)), (B1.rowOther (by omega)), (B2.rowOther (by omega)), (B3.row (fl 64 (moS p m (tmP p m d (eu p m d 9 F0 G0 (sng 0 oneP) (fun _ _ => 0)).2 F0)))), (B4.rowOther (by omega)), (B5.rowOther (by omega)), (B6.rowOther (by omega)), (B7.rowOther (by omega)), (B8.rowOther (by omega)), (zr hb (by omega) _)⟩
    rw [← hwo]
    clear hwo B0 B1 B2 B3 B4 B5 B6 B7 B8 hb
    obtain ⟨B0, B1, B2, B3, B4, B5, B6, B7, B8, hb⟩ := hzQ
    try simp only [Act.put, pA, pB, pC]
    refine bodyPost_ret (zrt rfl _ _ _ 512 _ _ rfl B3 _ Try.underlying26 rfl Try.size26) rfl ⟨rfl, hb⟩
  have hzI : skD B ≥ 0 := by omega
  obtain ⟨i1, i2, i3⟩ := hI.out
  obtain ⟨rA, rB, rU, rV, i4⟩ := i3
  have hB0 : 0 ≤ skD B := by omega
  obtain ⟨q1, q2, q3, q4, q5⟩ := HDQ.out A B rA rB hB0
  obtain ⟨fu, rfl⟩ : ∃ x, fu = x + 1 := ⟨fu - 1, by omega⟩
  have hI2 := Lib.hid (show eu p m d fu B (dq p m d A B).2 Vv (skA p U (tmP p m d (dq p m d A B).1 Vv) (-1)) = eu p m d 9 F0 G0 (sng 0 oneP) (fun _ _ => 0) ∧ skD (dq p m d A B).2 < (fu : Int) ∧ EI p m B (dq p m d A B).2 Vv (skA p U (tmP p m d (dq p m d A B).1 Vv) (-1)) (skD G0) from ⟨by rw [← i1, eu_step hz], by omega, HST.out A B U Vv hI.out.2.2 hB0⟩)
  have HK1 := Lib.hid (HDV.out A B rA rB hB0)
  have HK2 := Lib.hid (HTI.out (dq p m d A B).1 Vv q1 rV (HFI.out A B U Vv hI.out.2.2 hB0))
  have HK3 := Lib.hid (HAD.out U (tmP p m d (dq p m d A B).1 Vv) rU (HP.out _ _))
  have hM := Lib.hid (show skD (dq p m d A B).2 < skD B ∧ 0 ≤ skD B from ⟨q3, hB0⟩)
  clear i1 i2 i4 rA rB rU rV hB0 q1 q2 q3 q4 q5 hI hz
  go_upto_region 5 with (first | (refine zla (.tmp 11) B5 Try.underlying26 Try.size26 ?_) | (go_at_call 10; refine (l03Deg_any B _).mono ?_; rintro e W4 ⟨rfl, hW4⟩; replace B0 := B0.zw hW4; replace B1 := B1.zw hW4; replace B2 := B2.zw hW4; replace B3 := B3.zw hW4; replace B4 := B4.zw hW4; replace B5 := B5.zw hW4; replace B6 := B6.zw hW4; replace B7 := B7.zw hW4; replace hb := (hb).trans (hW4.mono (hb).size)))
  have lt_B0 := B0.lt
  have lt_B1 := B1.lt
  have lt_B2 := B2.lt
  have lt_B3 := B3.lt
  have lt_B4 := B4.lt
  have lt_B5 := B5.lt
  have lt_B6 := B6.lt
  have lt_B7 := B7.lt
  go_upto_region 6 with (first | rw [← z64] | rw [← zero512] | (refine zla (.tmp 5) B0 Try.underlying24 Try.size24 ?_) | (refine zla (.tmp 10) B4 Try.underlying26 Try.size26 ?_) | (refine zla (.tmp 11) B5 Try.underlying26 Try.size26 ?_) | (go_at_call 22; refine (HK1.out _).mono ?_; rintro e W5 ⟨rfl, hW5⟩; replace B0 := B0.zw hW5; replace B1 := B1.zw hW5; replace B2 := B2.zw hW5; replace B3 := B3.zw hW5; replace B4 := B4.zw hW5; replace B5 := B5.zw hW5; replace B6 := B6.zw hW5; replace B7 := B7.zw hW5; replace hb := (hb).trans (hW5.mono (hb).size)) | (refine wpList_store_blk rfl 26 (.tmp 14) (.tmp 48) rfl _ 512 (fl 64 (dq p m d A B).1) rfl rfl 26 _ (((Blk.new W5 512 26 (fl 64 (fun _ _ => 0))).alloc (.cells (zb 512 (fl 64 (fun _ _ => 0))) 26))) Try.size26 ?_; try simp only [Act.put]) | (refine wpList_store_blk rfl 26 (.tmp 15) (.tmp 49) rfl _ 512 (fl 64 (dq p m d A B).2) rfl rfl 26 _ (((show Blk ((W5.alloc (.cells (zb 512 (fl 64 (fun _ _ => 0))) 26)).alloc (.cells (zb 512 (fl 64 (fun _ _ => 0))) 26)) (W5.heap.size + 1) 512 26 (fl 64 (fun _ _ => 0)) by have := Blk.new (W5.alloc (.cells (zb 512 (fl 64 (fun _ _ => 0))) 26)) 512 26 (fl 64 (fun _ _ => 0)); simpa using this).rowOther (by omega))) Try.size26 ?_; try simp only [Act.put]))
  have lt_B0 := B0.lt
  have lt_B1 := B1.lt
  have lt_B2 := B2.lt
  have lt_B3 := B3.lt
  have lt_B4 := B4.lt
  have lt_B5 := B5.lt
  have lt_B6 := B6.lt
  have lt_B7 := B7.lt
  have lhb := hb.size
  obtain ⟨W6, hwo, hzQ⟩ : ∃ v : World, v = ((((W5.alloc (.cells (zb 512 (fl 64 (fun _ _ => 0))) 26)).alloc (.cells (zb 512 (fl 64 (fun _ _ => 0))) 26)).setRow (W5.heap.size) (zb 512 (fl 64 (dq p m d A B).1))).setRow (W5.heap.size + 1) (zb 512 (fl 64 (dq p m d A B).2))) ∧ Blk v (w.heap.size) 64 24 (m) ∧ Blk v (w.heap.size + 1) 512 26 (fl 64 F0) ∧ Blk v (w.heap.size + 1 + 1) 512 26 (fl 64 G0) ∧ Blk v (w.heap.size + 1 + 1 + 1) 512 26 (fl 64 (fun _ _ => 0)) ∧ Blk v (k3_4) 512 26 (fl 64 A) ∧ Blk v (k3_5) 512 26 (fl 64 B) ∧ Blk v (k3_6) 512 26 (fl 64 U) ∧ Blk v (k3_7) 512 26 (fl 64 Vv) ∧ Blk v (W5.heap.size) 512 26 (fl 64 (dq p m d A B).1) ∧ Blk v (W5.heap.size + 1) 512 26 (fl 64 (dq p m d A B).2) ∧ Below w.heap.size w v := ⟨_, rfl, ((((B0.alloc (.cells (zb 512 (fl 64 (fun _ _ => 0))) 26)).alloc (.cells (zb 512 (fl 64 (fun _ _ => 0))) 26)).rowOther (by omega)).rowOther (by omega)), ((((B1.alloc (.cells (zb 512 (fl 64 (fun _ _ => 0))) 26)).alloc (.cells (zb 512 (fl 64 (fun _ _ => 0))) 26)).rowOther (by omega)).rowOther (by omega)), ((((B2.alloc (.cells (zb 512 (fl 64 (fun _ _ => 0))) 26)).alloc (.cells (zb 512 (fl 64 (fun _ _ => 0))) 26)).rowOther (by omega)).rowOther (by omega)), ((((B3.alloc (.cells (zb 512 (fl 64 (fun _ _ => 0))) 26)).alloc (.cells (zb 512 (fl 64 (fun _ _ => 0))) 26)).rowOther (by omega)).rowOther (by omega)), ((((B4.alloc (.cells (zb 512 (fl 64 (fun _ _ => 0))) 26)).alloc (.cells (zb 512 (fl 64 (fun _ _ => 0))) 26)).rowOther (by omega)).rowOther (by omega)), ((((B5.alloc (.cells (zb 512 (fl 64 (fun _ _ => 0))) 26)).alloc (.cells (zb 512 (fl 64 (fun _ _ => 0))) 26)).rowOther (by omega)).rowOther (by omega)), ((((B6.alloc (.cells (zb 512 (fl 64 (fun _ _ => 0))) 26)).alloc (.cells (zb 512 (fl 64 (fun _ _ => 0))) 26)).rowOther (by omega)).rowOther (by omega)), ((((B7.alloc (.cells (zb 512 (fl 64 (fun _ _ => 0))) 26)).alloc (.cells (zb 512 (fl 64 (fun _ _ => 0))) 26)).rowOther (by omega)).rowOther (by omega)), ((((Blk.new W5 512 26 (fl 64 (fun _ _ => 0))).alloc (.cells (zb 512 (fl 64 (fun _ _ => 0))) 26)).row (fl 64 (dq p m d A B).1)).rowOther (by omega)), (((show Blk ((W5.alloc (.cells (zb 512 (fl 64 (fun _ _ => 0))) 26)).alloc (.cells (zb 512 (fl 64 (fun _ _ => 0))) 26)) (W5.heap.size + 1) 512 26 (fl 64 (fun _ _ => 0)) by have := Blk.new (W5.alloc (.cells (zb 512 (fl 64 (fun _ _ => 0))) 26)) 512 26 (fl 64 (fun _ _ => 0)); simpa using this).rowOther (by omega)).row (fl 64 (dq p m d A B).2)), (zr (zr ((hb.alloc (by have := hb.size; simp; omega) (.cells (zb 512 (fl 64 (fun _ _ => 0))) 26)).alloc (by have := hb.size; simp; omega) (.cells (zb 512 (fl 64 (fun _ _ => 0))) 26)) (by omega) _) (by omega) _)⟩
  rw [← hwo]
  clear hwo B0 B1 B2 B3 B4 B5 B6 B7 hb
  obtain ⟨B0, B1, B2, B3, B4, B5, B6, B7, B8, B9, hb⟩ := hzQ
  obtain ⟨N1, hNN⟩ : ∃ n : Nat, n = W5.heap.size := ⟨_, rfl⟩
  rw [← hNN] at lt_B0 lt_B1 lt_B2 lt_B3 lt_B4 lt_B5 lt_B6 lt_B7 lhb B8 B9 ⊢
  clear hNN
  have zN1_0 := lt_B0
  have zN1_1 := lt_B1
  have zN1_2 := lt_B2
  have zN1_3 := lt_B3
  have zN1_4 := lt_B4
  have zN1_5 := lt_B5
  have zN1_6 := lt_B6
  have zN1_7 := lt_B7
  have zN1 := lhb
  clear lt_B0 lt_B1 lt_B2 lt_B3 lt_B4 lt_B5 lt_B6 lt_B7 lhb
  try simp only [Act.put, pA, pB, pC]
  have lt_B0 := B0.lt
  have lt_B1 := B1.lt
  have lt_B2 := B2.lt
  have lt_B3 := B3.lt
  have lt_B4 := B4.lt
  have lt_B5 := B5.lt
  have lt_B6 := B6.lt
  have lt_B7 := B7.lt
  have lt_B8 := B8.lt
  have lt_B9 := B9.lt
  go_upto_region 7 with (first | rw [← z64] | rw [← zero512] | (refine zla (.tmp 5) B0 Try.underlying24 Try.size24 ?_) | (refine zla (.tmp 14) B8 Try.underlying26 Try.size26 ?_) | (refine zla (.tmp 13) B7 Try.underlying26 Try.size26 ?_) | (go_at_call 23; refine (HK2.out _).mono ?_; rintro e W7 ⟨rfl, hW7⟩; replace B0 := B0.zw hW7; replace B1 := B1.zw hW7; replace B2 := B2.zw hW7; replace B3 := B3.zw hW7; replace B4 := B4.zw hW7; replace B5 := B5.zw hW7; replace B6 := B6.zw hW7; replace B7 := B7.zw hW7; replace B8 := B8.zw hW7; replace B9 := B9.zw hW7; replace hb := (hb).trans (hW7.mono (hb).size)) | (refine wpList_store_blk rfl 26 (.tmp 16) (.tmp 56) rfl _ 512 (fl 64 (tmP p m d (dq p m d A B).1 Vv)) rfl rfl 26 _ ((Blk.new W7 512 26 (fl 64 (fun _ _ => 0)))) Try.size26 ?_; try simp only [Act.put]; go_upto_region 7 with (fail)))
  have lt_B0 := B0.lt
  have lt_B1 := B1.lt
  have lt_B2 := B2.lt
  have lt_B3 := B3.lt
  have lt_B4 := B4.lt
  have lt_B5 := B5.lt
  have lt_B6 := B6.lt
  have lt_B7 := B7.lt
  have lt_B8 := B8.lt
  have lt_B9 := B9.lt
  have lhb := hb.size
  obtain ⟨W8, hwo, hzQ⟩ : ∃ v : World, v = ((W7.alloc (.cells (zb 512 (fl 64 (fun _ _ => 0))) 26)).setRow (W7.heap.size) (zb 512 (fl 64 (tmP p m d (dq p m d A B).1 Vv)))) ∧ Blk v (w.heap.size) 64 24 (m) ∧ Blk v (w.heap.size + 1) 512 26 (fl 64 F0) ∧ Blk v (w.heap.size + 1 + 1) 512 26 (fl 64 G0) ∧ Blk v (w.heap.size + 1 + 1 + 1) 512 26 (fl 64 (fun _ _ => 0)) ∧ Blk v (k3_4) 512 26 (fl 64 A) ∧ Blk v (k3_5) 512 26 (fl 64 B) ∧ Blk v (k3_6) 512 26 (fl 64 U) ∧ Blk v (k3_7) 512 26 (fl 64 Vv) ∧ Blk v (N1) 512 26 (fl 64 (dq p m d A B).1) ∧ Blk v (N1 + 1) 512 26 (fl 64 (dq p m d A B).2) ∧ Blk v (W7.heap.size) 512 26 (fl 64 (tmP p m d (dq p m d A B).1 Vv)) ∧ Below w.heap.size w v := ⟨_, rfl, ((B0.alloc (.cells (zb 512 (fl 64 (fun _ _ => 0))) 26)).rowOther (by omega)), ((B1.alloc (.cells (zb 512 (fl 64 (fun _ _ => 0))) 26)).rowOther (by omega)), ((B2.alloc (.cells (zb 512 (fl 64 (fun _ _ => 0))) 26)).rowOther (by omega)), ((B3.alloc (.cells (zb 512 (fl 64 (fun _ _ => 0))) 26)).rowOther (by omega)), ((B4.alloc (.cells (zb 512 (fl 64 (fun _ _ => 0))) 26)).rowOther (by omega)), ((B5.alloc (.cells (zb 512 (fl 64 (fun _ _ => 0))) 26)).rowOther (by omega)), ((B6.alloc (.cells (zb 512 (fl 64 (fun _ _ => 0))) 26)).rowOther (by omega)), ((B7.alloc (.cells (zb 512 (fl 64 (fun _ _ => 0))) 26)).rowOther (by omega)), ((B8.alloc (.cells (zb 512 (fl 64 (fun _ _ => 0))) 26)).rowOther (by omega)), ((B9.alloc (.cells (zb 512 (fl 64 (fun _ _ => 0))) 26)).rowOther (by omega)), ((Blk.new W7 512 26 (fl 64 (fun _ _ => 0))).row (fl 64 (tmP p m d (dq p m d A B).1 Vv))), (zr (hb.alloc (by have := hb.size; simp; omega) (.cells (zb 512 (fl 64 (fun _ _ => 0))) 26)) (by omega) _)⟩
  rw [← hwo]
  clear hwo B0 B1 B2 B3 B4 B5 B6 B7 B8 B9 hb
  obtain ⟨B0, B1, B2, B3, B4, B5, B6, B7, B8, B9, B10, hb⟩ := hzQ
  obtain ⟨N2, hNN⟩ : ∃ n : Nat, n = W7.heap.size := ⟨_, rfl⟩
  rw [← hNN] at lt_B0 lt_B1 lt_B2 lt_B3 lt_B4 lt_B5 lt_B6 lt_B7 lt_B8 lt_B9 lhb B10 ⊢
  clear hNN
  have zN2_0 := lt_B0
  have zN2_1 := lt_B1
  have zN2_2 := lt_B2
  have zN2_3 := lt_B3
  have zN2_4 := lt_B4
  have zN2_5 := lt_B5
  have zN2_6 := lt_B6
  have zN2_7 := lt_B7
  have zN2_8 := lt_B8
  have zN2_9 := lt_B9
  have zN2 := lhb
  clear lt_B0 lt_B1 lt_B2 lt_B3 lt_B4 lt_B5 lt_B6 lt_B7 lt_B8 lt_B9 lhb
  try simp only [Act.put, pA, pB, pC]
  have lt_B0 := B0.lt
  have lt_B1 := B1.lt
  have lt_B2 := B2.lt
  have lt_B3 := B3.lt
  have lt_B4 := B4.lt
  have lt_B5 := B5.lt
  have lt_B6 := B6.lt
  have lt_B7 := B7.lt
  have lt_B8 := B8.lt
  have lt_B9 := B9.lt
  have lt_B10 := B10.lt
  go_upto_region 8 with (first | rw [← z64] | rw [← zero512] | (refine zla (.tmp 12) B6 Try.underlying26 Try.size26 ?_) | (refine zla (.tmp 16) B10 Try.underlying26 Try.size26 ?_) | (go_at_call 24; refine (HK3.out _).mono ?_; rintro e W9 ⟨rfl, hW9⟩; replace B0 := B0.zw hW9; replace B1 := B1.zw hW9; replace B2 := B2.zw hW9; replace B3 := B3.zw hW9; replace B4 := B4.zw hW9; replace B5 := B5.zw hW9; replace B6 := B6.zw hW9; replace B7 := B7.zw hW9; replace B8 := B8.zw hW9; replace B9 := B9.zw hW9; replace B10 := B10.zw hW9; replace hb := (hb).trans (hW9.mono (hb).size)) | (refine wpList_store_blk rfl 26 (.tmp 18) (.tmp 61) rfl _ 512 (fl 64 (skA p U (tmP p m d (dq p m d A B).1 Vv) (-1))) rfl rfl 26 _ ((Blk.new W9 512 26 (fl 64 (fun _ _ => 0)))) Try.size26 ?_; try simp only [Act.put]))
  have lt_B0 := B0.lt
  have lt_B1 := B1.lt
  have lt_B2 := B2.lt
  have lt_B3 := B3.lt
  have lt_B4 := B4.lt
  have lt_B5 := B5.lt
  have lt_B6 := B6.lt
  have lt_B7 := B7.lt
  have lt_B8 := B8.lt
  have lt_B9 := B9.lt
  have lt_B10 := B10.lt
  have lhb := hb.size
  obtain ⟨W10, hwo, hzQ⟩ : ∃ v : World, v = ((W9.alloc (.cells (zb 512 (fl 64 (fun _ _ => 0))) 26)).setRow (W9.heap.size) (zb 512 (fl 64 (skA p U (tmP p m d (dq p m d A B).1 Vv) (-1))))) ∧ Blk v (w.heap.size) 64 24 (m) ∧ Blk v (w.heap.size + 1) 512 26 (fl 64 F0) ∧ Blk v (w.heap.size + 1 + 1) 512 26 (fl 64 G0) ∧ Blk v (w.heap.size + 1 + 1 + 1) 512 26 (fl 64 (fun _ _ => 0)) ∧ Blk v (k3_4) 512 26 (fl 64 A) ∧ Blk v (k3_5) 512 26 (fl 64 B) ∧ Blk v (k3_6) 512 26 (fl 64 U) ∧ Blk v (k3_7) 512 26 (fl 64 Vv) ∧ Blk v (N1) 512 26 (fl 64 (dq p m d A B).1) ∧ Blk v (N1 + 1) 512 26 (fl 64 (dq p m d A B).2) ∧ Blk v (N2) 512 26 (fl 64 (tmP p m d (dq p m d A B).1 Vv)) ∧ Blk v (W9.heap.size) 512 26 (fl 64 (skA p U (tmP p m d (dq p m d A B).1 Vv) (-1))) ∧ Below w.heap.size w v := ⟨_, rfl, ((B0.alloc (.cells (zb 512 (fl 64 (fun _ _ => 0))) 26)).rowOther (by omega)), ((B1.alloc (.cells (zb 512 (fl 64 (fun _ _ => 0))) 26)).rowOther (by omega)), ((B2.alloc (.cells (zb 512 (fl 64 (fun _ _ => 0))) 26)).rowOther (by omega)), ((B3.alloc (.cells (zb 512 (fl 64 (fun _ _ => 0))) 26)).rowOther (by omega)), ((B4.alloc (.cells (zb 512 (fl 64 (fun _ _ => 0))) 26)).rowOther (by omega)), ((B5.alloc (.cells (zb 512 (fl 64 (fun _ _ => 0))) 26)).rowOther (by omega)), ((B6.alloc (.cells (zb 512 (fl 64 (fun _ _ => 0))) 26)).rowOther (by omega)), ((B7.alloc (.cells (zb 512 (fl 64 (fun _ _ => 0))) 26)).rowOther (by omega)), ((B8.alloc (.cells (zb 512 (fl 64 (fun _ _ => 0))) 26)).rowOther (by omega)), ((B9.alloc (.cells (zb 512 (fl 64 (fun _ _ => 0))) 26)).rowOther (by omega)), ((B10.alloc (.cells (zb 512 (fl 64 (fun _ _ => 0))) 26)).rowOther (by omega)), ((Blk.new W9 512 26 (fl 64 (fun _ _ => 0))).row (fl 64 (skA p U (tmP p m d (dq p m d A B).1 Vv) (-1)))), (zr (hb.alloc (by have := hb.size; simp; omega) (.cells (zb 512 (fl 64 (fun _ _ => 0))) 26)) (by omega) _)⟩
  rw [← hwo]
  clear hwo B0 B1 B10 B2 B3 B4 B5 B6 B7 B8 B9 hb
  obtain ⟨B0, B1, B2, B3, B4, B5, B6, B7, B8, B9, B10, B11, hb⟩ := hzQ
  obtain ⟨N3, hNN⟩ : ∃ n : Nat, n = W9.heap.size := ⟨_, rfl⟩
  rw [← hNN] at lt_B0 lt_B1 lt_B2 lt_B3 lt_B4 lt_B5 lt_B6 lt_B7 lt_B8 lt_B9 lt_B10 lhb B11 ⊢
  clear hNN
  have zN3_0 := lt_B0
  have zN3_1 := lt_B1
  have zN3_2 := lt_B2
  have zN3_3 := lt_B3
  have zN3_4 := lt_B4
  have zN3_5 := lt_B5
  have zN3_6 := lt_B6
  have zN3_7 := lt_B7
  have zN3_8 := lt_B8
  have zN3_9 := lt_B9
  have zN3_10 := lt_B10
  have zN3 := lhb
  clear lt_B0 lt_B1 lt_B2 lt_B3 lt_B4 lt_B5 lt_B6 lt_B7 lt_B8 lt_B9 lt_B10 lhb
  try simp only [Act.put, pA, pB, pC]
  have lt_B0 := B0.lt
  have lt_B1 := B1.lt
  have lt_B2 := B2.lt
  have lt_B3 := B3.lt
  have lt_B4 := B4.lt
  have lt_B5 := B5.lt
  have lt_B6 := B6.lt
  have lt_B7 := B7.lt
  have lt_B8 := B8.lt
  have lt_B9 := B9.lt
  have lt_B10 := B10.lt
  have lt_B11 := B11.lt
  go_upto_region 9 with (first | rw [← z64] | rw [← zero512] | (refine zla (.tmp 11) B5 Try.underlying26 Try.size26 ?_) | (refine zsr (.tmp 10) (.tmp 62) (fl 64 B) B4 Try.size26 ?_; try simp only [Act.put]))
  obtain ⟨W11, hwo, hzQ⟩ : ∃ v : World, v = (W10.setRow (k3_4) (zb 512 (fl 64 B))) ∧ Blk v (w.heap.size) 64 24 (m) ∧ Blk v (w.heap.size + 1) 512 26 (fl 64 F0) ∧ Blk v (w.heap.size + 1 + 1) 512 26 (fl 64 G0) ∧ Blk v (w.heap.size + 1 + 1 + 1) 512 26 (fl 64 (fun _ _ => 0)) ∧ Blk v (k3_4) 512 26 (fl 64 B) ∧ Blk v (k3_5) 512 26 (fl 64 B) ∧ Blk v (k3_6) 512 26 (fl 64 U) ∧ Blk v (k3_7) 512 26 (fl 64 Vv) ∧ Blk v (N1) 512 26 (fl 64 (dq p m d A B).1) ∧ Blk v (N1 + 1) 512 26 (fl 64 (dq p m d A B).2) ∧ Blk v (N2) 512 26 (fl 64 (tmP p m d (dq p m d A B).1 Vv)) ∧ Blk v (N3) 512 26 (fl 64 (skA p U (tmP p m d (dq p m d A B).1 Vv) (-1))) ∧ Below w.heap.size w v := ⟨_, rfl, (B0.rowOther (by omega)), (B1.rowOther (by omega)), (B2.rowOther (by omega)), (B3.rowOther (by omega)), (B4.row (fl 64 B)), (B5.rowOther (by omega)), (B6.rowOther (by omega)), (B7.rowOther (by omega)), (B8.rowOther (by omega)), (B9.rowOther (by omega)), (B10.rowOther (by omega)), (B11.rowOther (by omega)), (zr hb (by omega) _)⟩
  rw [← hwo]
  clear hwo B0 B1 B10 B11 B2 B3 B4 B5 B6 B7 B8 B9 hb
  obtain ⟨B0, B1, B2, B3, B4, B5, B6, B7, B8, B9, B10, B11, hb⟩ := hzQ
  try simp only [Act.put, pA, pB, pC]
  have lt_B0 := B0.lt
  have lt_B1 := B1.lt
  have lt_B2 := B2.lt
  have lt_B3 := B3.lt
  have lt_B4 := B4.lt
  have lt_B5 := B5.lt
  have lt_B6 := B6.lt
  have lt_B7 := B7.lt
  have lt_B8 := B8.lt
  have lt_B9 := B9.lt
  have lt_B10 := B10.lt
  have lt_B11 := B11.lt
  go_upto_region 10 with (first | rw [← z64] | rw [← zero512] | (refine zla (.tmp 15) B9 Try.underlying26 Try.size26 ?_) | (refine zsr (.tmp 11) (.tmp 63) (fl 64 (dq p m d A B).2) B5 Try.size26 ?_; try simp only [Act.put]))
  obtain ⟨W12, hwo, hzQ⟩ : ∃ v : World, v = (W11.setRow (k3_5) (zb 512 (fl 64 (dq p m d A B).2))) ∧ Blk v (w.heap.size) 64 24 (m) ∧ Blk v (w.heap.size + 1) 512 26 (fl 64 F0) ∧ Blk v (w.heap.size + 1 + 1) 512 26 (fl 64 G0) ∧ Blk v (w.heap.size + 1 + 1 + 1) 512 26 (fl 64 (fun _ _ => 0)) ∧ Blk v (k3_4) 512 26 (fl 64 B) ∧ Blk v (k3_5) 512 26 (fl 64 (dq p m d A B).2) ∧ Blk v (k3_6) 512 26 (fl 64 U) ∧ Blk v (k3_7) 512 26 (fl 64 Vv) ∧ Blk v (N1) 512 26 (fl 64 (dq p m d A B).1) ∧ Blk v (N1 + 1) 512 26 (fl 64 (dq p m d A B).2) ∧ Blk v (N2) 512 26 (fl 64 (tmP p m d (dq p m d A B).1 Vv)) ∧ Blk v (N3) 512 26 (fl 64 (skA p U (tmP p m d (dq p m d A B).1 Vv) (-1))) ∧ Below w.heap.size w v := ⟨_, rfl, (B0.rowOther (by omega)), (B1.rowOther (by omega)), (B2.rowOther (by omega)), (B3.rowOther (by omega)), (B4.rowOther (by omega)), (B5.row (fl 64 (dq p m d A B).2)), (B6.rowOther (by omega)), (B7.rowOther (by omega)), (B8.rowOther (by omega)), (B9.rowOther (by omega)), (B10.rowOther (by omega)), (B11.rowOther (by omega)), (zr hb (by omega) _)⟩
  rw [← hwo]
  clear hwo B0 B1 B10 B11 B2 B3 B4 B5 B6 B7 B8 B9 hb
  obtain ⟨B0, B1, B2, B3, B4, B5, B6, B7, B8, B9, B10, B11, hb⟩ := hzQ
  try simp only [Act.put, pA, pB, pC]
  have lt_B0 := B0.lt
  have lt_B1 := B1.lt
  have lt_B2 := B2.lt
  have lt_B3 := B3.lt
  have lt_B4 := B4.lt
  have lt_B5 := B5.lt
  have lt_B6 := B6.lt
  have lt_B7 := B7.lt
  have lt_B8 := B8.lt
  have lt_B9 := B9.lt
  have lt_B10 := B10.lt
  have lt_B11 := B11.lt
  go_upto_region 11 with (first | rw [← z64] | rw [← zero512] | (refine zla (.tmp 13) B7 Try.underlying26 Try.size26 ?_) | (refine zsr (.tmp 12) (.tmp 64) (fl 64 Vv) B6 Try.size26 ?_; try simp only [Act.put]))
  obtain ⟨W13, hwo, hzQ⟩ : ∃ v : World, v = (W12.setRow (k3_6) (zb 512 (fl 64 Vv))) ∧ Blk v (w.heap.size) 64 24 (m) ∧ Blk v (w.heap.size + 1) 512 26 (fl 64 F0) ∧ Blk v (w.heap.size + 1 + 1) 512 26 (fl 64 G0) ∧ Blk v (w.heap.size + 1 + 1 + 1) 512 26 (fl 64 (fun _ _ => 0)) ∧ Blk v (k3_4) 512 26 (fl 64 B) ∧ Blk v (k3_5) 512 26 (fl 64 (dq p m d A B).2) ∧ Blk v (k3_6) 512 26 (fl 64 Vv) ∧ Blk v (k3_7) 512 26 (fl 64 Vv) ∧ Blk v (N1) 512 26 (fl 64 (dq p m d A B).1) ∧ Blk v (N1 + 1) 512 26 (fl 64 (dq p m d A B).2) ∧ Blk v (N2) 512 26 (fl 64 (tmP p m d (dq p m d A B).1 Vv)) ∧ Blk v (N3) 512 26 (fl 64 (skA p U (tmP p m d (dq p m d A B).1 Vv) (-1))) ∧ Below w.heap.size w v := ⟨_, rfl, (B0.rowOther (by omega)), (B1.rowOther (by omega)), (B2.rowOther (by omega)), (B3.rowOther (by omega)), (B4.rowOther (by omega)), (B5.rowOther (by omega)), (B6.row (fl 64 Vv)), (B7.rowOther (by omega)), (B8.rowOther (by omega)), (B9.rowOther (by omega)), (B10.rowOther (by omega)), (B11.rowOther (by omega)), (zr hb (by omega) _)⟩
  rw [← hwo]
  clear hwo B0 B1 B10 B11 B2 B3 B4 B5 B6 B7 B8 B9 hb
  obtain ⟨B0, B1, B2, B3, B4, B5, B6, B7, B8, B9, B10, B11, hb⟩ := hzQ
  try simp only [Act.put, pA, pB, pC]
  have lt_B0 := B0.lt
  have lt_B1 := B1.lt
  have lt_B2 := B2.lt
  have lt_B3 := B3.lt
  have lt_B4 := B4.lt
  have lt_B5 := B5.lt
  have lt_B6 := B6.lt
  have lt_B7 := B7.lt
  have lt_B8 := B8.lt
  have lt_B9 := B9.lt
  have lt_B10 := B10.lt
  have lt_B11 := B11.lt
  go_wp2_with (first | rw [← z64] | rw [← zero512] | (refine zla (.tmp 18) B11 Try.underlying26 Try.size26 ?_) | (refine zsr (.tmp 13) (.tmp 65) (fl 64 (skA p U (tmP p m d (dq p m d A B).1 Vv) (-1))) B7 Try.size26 ?_; try simp only [Act.put]))
  obtain ⟨W14, hwo, hzQ⟩ : ∃ v : World, v = (W13.setRow (k3_7) (zb 512 (fl 64 (skA p U (tmP p m d (dq p m d A B).1 Vv) (-1))))) ∧ Blk v (w.heap.size) 64 24 (m) ∧ Blk v (w.heap.size + 1) 512 26 (fl 64 F0) ∧ Blk v (w.heap.size + 1 + 1) 512 26 (fl 64 G0) ∧ Blk v (w.heap.size + 1 + 1 + 1) 512 26 (fl 64 (fun _ _ => 0)) ∧ Blk v (k3_4) 512 26 (fl 64 B) ∧ Blk v (k3_5) 512 26 (fl 64 (dq p m d A B).2) ∧ Blk v (k3_6) 512 26 (fl 64 Vv) ∧ Blk v (k3_7) 512 26 (fl 64 (skA p U (tmP p m d (dq p m d A B).1 Vv) (-1))) ∧ Blk v (N1) 512 26 (fl 64 (dq p m d A B).1) ∧ Blk v (N1 + 1) 512 26 (fl 64 (dq p m d A B).2) ∧ Blk v (N2) 512 26 (fl 64 (tmP p m d (dq p m d A B).1 Vv)) ∧ Blk v (N3) 512 26 (fl 64 (skA p U (tmP p m d (dq p m d A B).1 Vv) (-1))) ∧ Below w.heap.size w v := ⟨_, rfl, (B0.rowOther (by omega)), (B1.rowOther (by omega)), (B2.rowOther (by omega)), (B3.rowOther (by omega)), (B4.rowOther (by omega)), (B5.rowOther (by omega)), (B6.rowOther (by omega)), (B7.row (fl 64 (skA p U (tmP p m d (dq p m d A B).1 Vv) (-1)))), (B8.rowOther (by omega)), (B9.rowOther (by omega)), (B10.rowOther (by omega)), (B11.rowOther (by omega)), (zr hb (by omega) _)⟩
  rw [← hwo]
  clear hwo B0 B1 B10 B11 B2 B3 B4 B5 B6 B7 B8 B9 hb
  obtain ⟨B0, B1, B2, B3, B4, B5, B6, B7, B8, B9, B10, B11, hb⟩ := hzQ
  try simp only [Act.put, pA, pB, pC]
  go_roundw
  case rel => exact ⟨fu, _, _, _, _, hI2, hb, B0, B1, B2, B3, B4, B5, B6, B7⟩
  case measure => rw [skAt_blk B5, skAt_blk BF0.out]; have h1 := hM.out; omega
theorem l03Multiple_no (p : Nat) (m : Nat → Nat) (F0 G0 : Nat → Nat → Nat) (w : World) (hpr : p = 2 ∨ p = 3 ∨ p = 5 ∨ p = 7) (lm : ∀ k, k < 64 → m k < p) (d : Nat) (hmon : mon m d) (hi : irr p (cut m) d) (hd9 : d ≤ 9) (hF : rsk p m F0) (hG : rsk p m G0) (hF0 : 0 ≤ skD F0) (hG0 : 0 ≤ skD G0) (hfit : ¬ skD (eu p m d 9 F0 G0 (sng 0 oneP) (fun _ _ => 0)).2 + skD F0 ≤ 7) :
 Calls Try.prog 11 #[.int .i64 (p : Int), .agg (zb 64 m), .agg (zb 512 (fl 64 F0)), .agg (zb 512 (fl 64 G0))] w fun e w' => e = .returned (.tuple #[.agg (zb 512 (fl 64 (fun _ _ => 0))), .bool false]) ∧ Below w.heap.size w w' := by
 have p0 : 0 < p := by omega
 have hd := hmon.1
 have hd1 := hi.1
 have h0 : 0 ≤ deg m := by omega
 have h9 : deg m ≤ 9 := by omega
 have p2 : 2 ≤ p := by omega
 have p7 : p ≤ 7 := by omega
 have g7 := (zsd G0).2
 obtain ⟨e1, e2, e3, e4⟩ := eu_end hpr lm hmon hi hd9 g7 hG0 9 F0 G0 (sng 0 oneP) (fun _ _ => 0) (EI_start hpr lm hmon hi hd9 hF hG) (by omega)
 rw [eu_eD] at e1 e4
 have hD0 : 0 ≤ skD (eD p m d 9 F0 G0) := by
  exact (eD_nn hpr lm hmon hi hd9 9 F0 G0 hF hG (by omega) (.inl hF0)).2
 have hmd := moS_deg hpr lm hmon hi hd9 e1 hD0
 have HDI := Lib.hid (fun W => l03Divisor_any p m F0 G0 W hpr lm d hmon hi hd9 hF hG (.inl hF0))
 have HDD := Lib.hid (show ∀ W, Calls Try.prog 10 #[.agg (zb 512 (fl 64 (moS p m (eD p m d 9 F0 G0))))] W fun e w' => e = .returned (.int .i64 (skD (eD p m d 9 F0 G0))) ∧ Below W.heap.size W w' from fun W => by have := l03Deg_any (moS p m (eD p m d 9 F0 G0)) W; rwa [hmd] at this)
 have hgt : (skD F0 + skD G0 - skD (eD p m d 9 F0 G0) > 7) := by omega
 obtain ⟨fb1, fb2⟩ := zsd F0
 obtain ⟨gb1, gb2⟩ := zsd G0
 obtain ⟨db1, db2⟩ := zsd (eD p m d 9 F0 G0)
 clear e1 e2 e3 e4 hD0 hmd hF hG hF0 hG0 hfit hd hd1 h0 h9 hmon hi lm hpr g7
 go_enter Try.func11, Try.ntmps11
 go_upto_region 1 with (fail)
 rw [← zero512]
 obtain ⟨W1, hwo⟩ : ∃ v : World, v = ((((w.alloc (.cells (zb 64 (m)) 24)).alloc (.cells (zb 512 (fl 64 F0)) 26)).alloc (.cells (zb 512 (fl 64 G0)) 26)).alloc (.cells (zb 512 (fl 64 (fun _ _ => 0))) 26)) := ⟨_, rfl⟩
 have B0 : Blk W1 (w.heap.size) 64 24 (m) := by subst hwo; have := ((((Blk.new w 64 24 (m)).alloc (.cells (zb 512 (fl 64 F0)) 26)).alloc (.cells (zb 512 (fl 64 G0)) 26)).alloc (.cells (zb 512 (fl 64 (fun _ _ => 0))) 26)); simpa using this
 have B1 : Blk W1 (w.heap.size + 1) 512 26 (fl 64 F0) := by subst hwo; have := (((Blk.new (w.alloc (.cells (zb 64 (m)) 24)) 512 26 (fl 64 F0)).alloc (.cells (zb 512 (fl 64 G0)) 26)).alloc (.cells (zb 512 (fl 64 (fun _ _ => 0))) 26)); simpa using this
 have B2 : Blk W1 (w.heap.size + 1 + 1) 512 26 (fl 64 G0) := by subst hwo; have := ((Blk.new ((w.alloc (.cells (zb 64 (m)) 24)).alloc (.cells (zb 512 (fl 64 F0)) 26)) 512 26 (fl 64 G0)).alloc (.cells (zb 512 (fl 64 (fun _ _ => 0))) 26)); simpa using this
 have B3 : Blk W1 (w.heap.size + 1 + 1 + 1) 512 26 (fl 64 (fun _ _ => 0)) := by subst hwo; have := (Blk.new (((w.alloc (.cells (zb 64 (m)) 24)).alloc (.cells (zb 512 (fl 64 F0)) 26)).alloc (.cells (zb 512 (fl 64 G0)) 26)) 512 26 (fl 64 (fun _ _ => 0))); simpa using this
 have hb : Below w.heap.size w W1 := by subst hwo; exact (((((Below.refl _ _).alloc (Nat.le_refl _) _).alloc (by simp) _).alloc (by simp; omega) _).alloc (by simp; omega) _)
 rw [← hwo]
 clear hwo
 refine zq Try.mixed (by kernel_rfl) (by kernel_rfl) (fun v => by (simp only [frL, Act.put, pA, pB, pC, Nat.reduceAdd, Nat.zero_add]; exact rfl))
  (fun L v W2 => Below W1.heap.size W1 W2 ∧ VF L v [some (.agg (zb 512 (fl 64 F0))), some (.int .i64 (skD F0)), some (.agg (zb 512 (fl 64 G0))), some (.int .i64 (skD G0)), some (.int .i64 (skD F0 + skD G0)), some (.int .i64 (p : Int)), some (.agg (zb 64 (m))), some (.agg (zb 512 (fl 64 F0))), some (.agg (zb 512 (fl 64 G0))), some (.agg (zb 512 (fl 64 (moS p m (eD p m d 9 F0 G0))))), some (.int .i64 (skD (eD p m d 9 F0 G0))), some (.int .i64 (skD F0 + skD G0 - skD (eD p m d 9 F0 G0))), some (.bool true)]) ?_ ?_ ?_
 · intro v hv0
   exact ⟨(Below.refl _ W1).drew, VF.start⟩
 · refine (.cons rfl ?_ (.cons rfl ?_ (.cons rfl ?_ (.cons rfl ?_ (.cons rfl ?_ (.cons rfl ?_ (.cons rfl ?_ (.cons rfl ?_ (.cons rfl ?_ (.cons rfl ?_ (.cons rfl ?_ (.cons rfl ?_ (.cons rfl ?_ (.nil _))))))))))))))
   all_goals intro L v W2 hd hn ⟨hY, V⟩ K hK
   · refine zlc (B1.zw hY) Try.underlying26 Try.size26 ?_
     exact hK _ _ _ rfl ⟨hY, V.step 0 rfl⟩
   · have e0 := V.at (zdq hd 0 rfl) rfl
     go_wp2_with (go_at_call 10; refine (l03Deg_any F0 _).mono ?_; rintro e wy ⟨rfl, hy⟩)
     exact hK _ (.int .i64 (skD F0)) _ (by simp only [Act.put, pA, pB, pC, e0]) ⟨hY.trans (hy.mono hY.size), V.step 1 rfl⟩
   · refine zlc (B2.zw hY) Try.underlying26 Try.size26 ?_
     exact hK _ _ _ rfl ⟨hY, V.step 2 rfl⟩
   · have e2 := V.at (zdq hd 2 rfl) rfl
     go_wp2_with (go_at_call 10; refine (l03Deg_any G0 _).mono ?_; rintro e wy ⟨rfl, hy⟩)
     exact hK _ (.int .i64 (skD G0)) _ (by simp only [Act.put, pA, pB, pC, e2]) ⟨hY.trans (hy.mono hY.size), V.step 3 rfl⟩
   · have e1 := V.at (zdq hd 1 rfl) rfl
     have e3 := V.at (zdq hd 3 rfl) rfl
     go_wp2_with fail
     exact hK _ (.int .i64 (skD F0 + skD G0)) _ (by simp only [Act.put, pA, pB, pC, e1, e3]) ⟨hY, V.step 4 rfl⟩
   · go_wp2_with fail
     exact hK _ (.int .i64 (p : Int)) _ (by simp only [Act.put, pA, pB, pC ]) ⟨hY, V.step 5 rfl⟩
   · refine zlc (B0.zw hY) Try.underlying24 Try.size24 ?_
     exact hK _ _ _ rfl ⟨hY, V.step 6 rfl⟩
   · refine zlc (B1.zw hY) Try.underlying26 Try.size26 ?_
     exact hK _ _ _ rfl ⟨hY, V.step 7 rfl⟩
   · refine zlc (B2.zw hY) Try.underlying26 Try.size26 ?_
     exact hK _ _ _ rfl ⟨hY, V.step 8 rfl⟩
   · have e5 := V.at (zdq hd 5 rfl) rfl
     have e6 := V.at (zdq hd 6 rfl) rfl
     have e7 := V.at (zdq hd 7 rfl) rfl
     have e8 := V.at (zdq hd 8 rfl) rfl
     go_wp2_with (go_at_call 20; refine (HDI.out _).mono ?_; rintro e wy ⟨rfl, hy⟩)
     exact hK _ (.agg (zb 512 (fl 64 (moS p m (eD p m d 9 F0 G0))))) _ (by simp only [Act.put, pA, pB, pC, e5, e6, e7, e8]) ⟨hY.trans (hy.mono hY.size), V.step 9 rfl⟩
   · have e9 := V.at (zdq hd 9 rfl) rfl
     go_wp2_with (go_at_call 10; refine (HDD.out _).mono ?_; rintro e wy ⟨rfl, hy⟩)
     exact hK _ (.int .i64 (skD (eD p m d 9 F0 G0))) _ (by simp only [Act.put, pA, pB, pC, e9]) ⟨hY.trans (hy.mono hY.size), V.step 10 rfl⟩
   · have e4 := V.at (zdq hd 4 rfl) rfl
     have e10 := V.at (zdq hd 10 rfl) rfl
     go_wp2_with fail
     exact hK _ (.int .i64 (skD F0 + skD G0 - skD (eD p m d 9 F0 G0))) _ (by simp only [Act.put, pA, pB, pC, e4, e10]) ⟨hY, V.step 11 rfl⟩
   have e11 := V.at (zdq hd 11 rfl) rfl
   go_wp2_with fail
   try rw [show decide (7 < skD F0 + skD G0 - skD (eD p m d 9 F0 G0)) = true by simp; omega]
   exact hK _ (.bool true) _ (by simp only [Act.put, pA, pB, pC, e11]) ⟨hY, V.step 12 rfl⟩
 intro L v W2 hL ⟨hY, V⟩
 have e0 := V.at (hL 0 (by decide)) rfl
 have e1 := V.at (hL 1 (by decide)) rfl
 have e2 := V.at (hL 2 (by decide)) rfl
 have e3 := V.at (hL 3 (by decide)) rfl
 have e4 := V.at (hL 4 (by decide)) rfl
 have e5 := V.at (hL 5 (by decide)) rfl
 have e6 := V.at (hL 6 (by decide)) rfl
 have e7 := V.at (hL 7 (by decide)) rfl
 have e8 := V.at (hL 8 (by decide)) rfl
 have e9 := V.at (hL 9 (by decide)) rfl
 have e10 := V.at (hL 10 (by decide)) rfl
 have e11 := V.at (hL 11 (by decide)) rfl
 have e12 := V.at (hL 12 (by decide)) rfl
 clear hL V
 replace B0 := B0.zw hY
 replace B1 := B1.zw hY
 replace B2 := B2.zw hY
 replace B3 := B3.zw hY
 replace hb := hb.trans (hY.mono hb.size)
 clear hY
 simp only [Exit.then, e0, e1, e2, e3, e4, e5, e6, e7, e8, e9, e10, e11, e12]
 clear e0 e1 e2 e3 e4 e5 e6 e7 e8 e9 e10 e11 e12
 clear hgt
 go_upto_region 2 with (fail)
 go_wp2_with (first | rw [← z64] | rw [← zero512] | (refine zsr (.tmp 8) (.tmp 34) (fl 64 (fun _ _ => 0)) B3 Try.size26 ?_; try simp only [Act.put]; go_wp2_with fail))
 obtain ⟨W3, hwo, hzQ⟩ : ∃ v : World, v = (W2.setRow (w.heap.size + 1 + 1 + 1) (zb 512 (fl 64 (fun _ _ => 0)))) ∧ Blk v (w.heap.size) 64 24 (m) ∧ Blk v (w.heap.size + 1) 512 26 (fl 64 F0) ∧ Blk v (w.heap.size + 1 + 1) 512 26 (fl 64 G0) ∧ Blk v (w.heap.size + 1 + 1 + 1) 512 26 (fl 64 (fun _ _ => 0)) ∧ Below w.heap.size w v := ⟨_, rfl, (B0.rowOther (by omega)), (B1.rowOther (by omega)), (B2.rowOther (by omega)), (B3.row (fl 64 (fun _ _ => 0))), (zr hb (by omega) _)⟩
 rw [← hwo]
 clear hwo B0 B1 B2 B3 hb
 obtain ⟨B0, B1, B2, B3, hb⟩ := hzQ
 try simp only [Act.put, pA, pB, pC]
 refine bodyPost_ret (zrt rfl _ _ _ 512 _ _ rfl B3 _ Try.underlying26 rfl Try.size26) rfl ⟨rfl, hb⟩
end Go.Proofs.Ytoncepgcfifgbab
namespace Go.Proofs.Ytoncepgcfifgbab
open Go Go.RowKit
attribute [local irreducible] deg addK okA flV skA skD sng oneP
noncomputable def lmV (p : Int) (m : Nat → Nat) (F G : Nat → Nat → Nat) : (Nat → Nat → Nat) × Int := if ckS p m [F, G] = 0 then (if skD F < 0 ∨ skD G < 0 then (fun _ _ => 0, 5) else if skD (eu p.toNat m (deg m).toNat 9 F G (sng 0 oneP) (fun _ _ => 0)).2 + skD F ≤ 7 then (moS p.toNat m (tmP p.toNat m (deg m).toNat (eu p.toNat m (deg m).toNat 9 F G (sng 0 oneP) (fun _ _ => 0)).2 F), 0) else (fun _ _ => 0, 3)) else (fun _ _ => 0, 1)
theorem lmV_0 {n d : Nat} {m : Nat → Nat} {F G : Nat → Nat → Nat} (h : ckS (n : Int) m [F, G] = 0) (hd : deg m = (d : Int)) (h2 : ¬ (skD F < 0 ∨ skD G < 0)) (h3 : skD (eu n m d 9 F G (sng 0 oneP) (fun _ _ => 0)).2 + skD F ≤ 7) : lmV (n : Int) m F G = (moS n m (tmP n m d (eu n m d 9 F G (sng 0 oneP) (fun _ _ => 0)).2 F), 0) := by
 unfold lmV; rw [if_pos h, if_neg h2, hd, show ((n : Int)).toNat = n from rfl, show ((d : Int)).toNat = d from rfl, if_pos h3]
theorem lmV_3 {n d : Nat} {m : Nat → Nat} {F G : Nat → Nat → Nat} (h : ckS (n : Int) m [F, G] = 0) (hd : deg m = (d : Int)) (h2 : ¬ (skD F < 0 ∨ skD G < 0)) (h3 : ¬ skD (eu n m d 9 F G (sng 0 oneP) (fun _ _ => 0)).2 + skD F ≤ 7) : lmV (n : Int) m F G = (fun _ _ => 0, 3) := by
 unfold lmV; rw [if_pos h, if_neg h2, hd, show ((n : Int)).toNat = n from rfl, show ((d : Int)).toNat = d from rfl, if_neg h3]
theorem lmV_5 {p : Int} {m : Nat → Nat} {F G : Nat → Nat → Nat} (h : ckS p m [F, G] = 0) (h2 : skD F < 0 ∨ skD G < 0) : lmV p m F G = (fun _ _ => 0, 5) := by unfold lmV; rw [if_pos h, if_pos h2]
theorem lmV_1 {p : Int} {m : Nat → Nat} {F G : Nat → Nat → Nat} (h : ckS p m [F, G] = 1) : lmV p m F G = (fun _ _ => 0, 1) := if_neg (by omega)
attribute [irreducible] lmV
end Go.Proofs.Ytoncepgcfifgbab
namespace Go.Proofs.Ytoncepgcfifgbab
open Go Go.RowKit
attribute [local irreducible] deg addK okA flV skA skD sng oneP
theorem spec_LeftMultiple_any (p : Int) (m : Nat → Nat) (F G : Nat → Nat → Nat) (hm : byte m) (hF : ∀ i, byte (F i)) (hG : ∀ i, byte (G i)) (w : World) :
 Calls Try.prog 4 #[.int .i64 p, .agg (zb 64 m), .agg (zb 512 (fl 64 F)), .agg (zb 512 (fl 64 G))] w fun e w' => e = .returned (.tuple #[.agg (zb 512 (fl 64 (lmV p m F G).1)), .int .i64 (lmV p m F G).2]) ∧ Below w.heap.size w w' := by
 go_enter Try.func4, Try.ntmps4
 go_upto_region 1 with (fail)
 rw [← zero512]
 obtain ⟨W1, hwo⟩ : ∃ v : World, v = ((((w.alloc (.cells (zb 64 (m)) 24)).alloc (.cells (zb 512 (fl 64 F)) 26)).alloc (.cells (zb 512 (fl 64 G)) 26)).alloc (.cells (zb 512 (fl 64 (fun _ _ => 0))) 26)) := ⟨_, rfl⟩
 have B0 : Blk W1 (w.heap.size) 64 24 (m) := by subst hwo; have := ((((Blk.new w 64 24 (m)).alloc (.cells (zb 512 (fl 64 F)) 26)).alloc (.cells (zb 512 (fl 64 G)) 26)).alloc (.cells (zb 512 (fl 64 (fun _ _ => 0))) 26)); simpa using this
 have B1 : Blk W1 (w.heap.size + 1) 512 26 (fl 64 F) := by subst hwo; have := (((Blk.new (w.alloc (.cells (zb 64 (m)) 24)) 512 26 (fl 64 F)).alloc (.cells (zb 512 (fl 64 G)) 26)).alloc (.cells (zb 512 (fl 64 (fun _ _ => 0))) 26)); simpa using this
 have B2 : Blk W1 (w.heap.size + 1 + 1) 512 26 (fl 64 G) := by subst hwo; have := ((Blk.new ((w.alloc (.cells (zb 64 (m)) 24)).alloc (.cells (zb 512 (fl 64 F)) 26)) 512 26 (fl 64 G)).alloc (.cells (zb 512 (fl 64 (fun _ _ => 0))) 26)); simpa using this
 have B3 : Blk W1 (w.heap.size + 1 + 1 + 1) 512 26 (fl 64 (fun _ _ => 0)) := by subst hwo; have := (Blk.new (((w.alloc (.cells (zb 64 (m)) 24)).alloc (.cells (zb 512 (fl 64 F)) 26)).alloc (.cells (zb 512 (fl 64 G)) 26)) 512 26 (fl 64 (fun _ _ => 0))); simpa using this
 have hb : Below w.heap.size w W1 := by subst hwo; exact (((((Below.refl _ _).alloc (Nat.le_refl _) _).alloc (by simp) _).alloc (by simp; omega) _).alloc (by simp; omega) _)
 rw [← hwo]
 clear hwo
 rcases ckS_two p m [F, G] with hc | hc
 · skip
   go_upto_region 2 with (first | (refine zla (.tmp 5) B0 Try.underlying24 Try.size24 ?_) | (refine zla (.tmp 6) B1 Try.underlying26 Try.size26 ?_) | (refine zla (.tmp 7) B2 Try.underlying26 Try.size26 ?_) | (refine zbk rfl 45 _ [F, G] rfl 26 Try.underlying45 Try.elem26 (by simp) (by simp) rfl ?_; intro wa hps hba) | (go_at_call 9; refine (l03Code_any _ m hm [F, G] (by simp [hF, hG]) (by simp) _ _ hps).mono ?_; rintro e W2 ⟨rfl, hbb⟩; rw [hc]))
   have hBB : Below W1.heap.size W1 W2 := hba.trans (hbb.mono hba.size)
   replace B0 := B0.zw hBB
   replace B1 := B1.zw hBB
   replace B2 := B2.zw hBB
   replace B3 := B3.zw hBB
   replace hb := hb.trans (hBB.mono hb.size)
   clear hBB hba hbb hps
   by_cases hzF : skD F < 0
   · skip
     have HV := Lib.hid (lmV_5 hc (.inl hzF))
     clear hc
     go_upto_region 5 with (first | (refine zlg rfl 26 (.tmp 6) rfl _ rfl 512 26 _ (B1) _ Try.underlying26 rfl Try.size26 ?_) | (go_at_call 10; with_reducible refine (l03Deg_any F _).mono ?_; rintro e W3 ⟨rfl, hW3⟩; replace B0 := B0.zw hW3; replace B1 := B1.zw hW3; replace B2 := B2.zw hW3; replace B3 := B3.zw hW3; replace hb := (hb).trans (hW3.mono (hb).size)))
     have lt_B0 := B0.lt
     have lt_B1 := B1.lt
     have lt_B2 := B2.lt
     have lt_B3 := B3.lt
     go_wp2_with (first | rw [← z64] | rw [← zero512] | (refine zsr (.tmp 8) (.tmp 33) (fl 64 (fun _ _ => 0)) B3 Try.size26 ?_; try simp only [Act.put]; go_wp2_with fail))
     obtain ⟨W4, hwo, hzQ⟩ : ∃ v : World, v = (W3.setRow (w.heap.size + 1 + 1 + 1) (zb 512 (fl 64 (fun _ _ => 0)))) ∧ Blk v (w.heap.size) 64 24 (m) ∧ Blk v (w.heap.size + 1) 512 26 (fl 64 F) ∧ Blk v (w.heap.size + 1 + 1) 512 26 (fl 64 G) ∧ Blk v (w.heap.size + 1 + 1 + 1) 512 26 (fl 64 (fun _ _ => 0)) ∧ Below w.heap.size w v := ⟨_, rfl, (B0.rowOther (by omega)), (B1.rowOther (by omega)), (B2.rowOther (by omega)), (B3.row (fl 64 (fun _ _ => 0))), (zr hb (by omega) _)⟩
     rw [← hwo]
     clear hwo B0 B1 B2 B3 hb
     obtain ⟨B0, B1, B2, B3, hb⟩ := hzQ
     try simp only [Act.put, pA, pB, pC]
     refine bodyPost_ret (zrt rfl _ _ _ 512 _ _ rfl B3 _ Try.underlying26 rfl Try.size26) rfl ⟨by first | (rw [HV.out]; rfl) | rw [HV.out], hb⟩
   by_cases hzG : skD G < 0
   · skip
     have hdF : decide (skD F < 0) = false := decide_eq_false hzF
     have HV := Lib.hid (lmV_5 hc (.inr hzG))
     clear hc
     go_upto_region 5 with (first | (refine zlg rfl 26 (.tmp 6) rfl _ rfl 512 26 _ (B1) _ Try.underlying26 rfl Try.size26 ?_) | (go_at_call 10; with_reducible refine (l03Deg_any F _).mono ?_; rintro e W3 ⟨rfl, hW3⟩; replace B0 := B0.zw hW3; replace B1 := B1.zw hW3; replace B2 := B2.zw hW3; replace B3 := B3.zw hW3; replace hb := (hb).trans (hW3.mono (hb).size)) | (refine zlg rfl 26 (.tmp 7) rfl _ rfl 512 26 _ (B2) _ Try.underlying26 rfl Try.size26 ?_) | (go_at_call 10; with_reducible refine (l03Deg_any G _).mono ?_; rintro e W4 ⟨rfl, hW4⟩; replace B0 := B0.zw hW4; replace B1 := B1.zw hW4; replace B2 := B2.zw hW4; replace B3 := B3.zw hW4; replace hb := (hb).trans (hW4.mono (hb).size)))
     have lt_B0 := B0.lt
     have lt_B1 := B1.lt
     have lt_B2 := B2.lt
     have lt_B3 := B3.lt
     go_wp2_with (first | rw [← z64] | rw [← zero512] | (refine zsr (.tmp 8) (.tmp 33) (fl 64 (fun _ _ => 0)) B3 Try.size26 ?_; try simp only [Act.put]; go_wp2_with fail))
     obtain ⟨W5, hwo, hzQ⟩ : ∃ v : World, v = (W4.setRow (w.heap.size + 1 + 1 + 1) (zb 512 (fl 64 (fun _ _ => 0)))) ∧ Blk v (w.heap.size) 64 24 (m) ∧ Blk v (w.heap.size + 1) 512 26 (fl 64 F) ∧ Blk v (w.heap.size + 1 + 1) 512 26 (fl 64 G) ∧ Blk v (w.heap.size + 1 + 1 + 1) 512 26 (fl 64 (fun _ _ => 0)) ∧ Below w.heap.size w v := ⟨_, rfl, (B0.rowOther (by omega)), (B1.rowOther (by omega)), (B2.rowOther (by omega)), (B3.row (fl 64 (fun _ _ => 0))), (zr hb (by omega) _)⟩
     rw [← hwo]
     clear hwo B0 B1 B2 B3 hb
     obtain ⟨B0, B1, B2, B3, hb⟩ := hzQ
     try simp only [Act.put, pA, pB, pC]
     refine bodyPost_ret (zrt rfl _ _ _ 512 _ _ rfl B3 _ Try.underlying26 rfl Try.size26) rfl ⟨by first | (rw [HV.out]; rfl) | rw [HV.out], hb⟩
   skip
   have hdF : decide (skD F < 0) = false := decide_eq_false hzF
   have hdG : decide (skD G < 0) = false := decide_eq_false hzG
   obtain ⟨n, rfl, hpr, lm, ⟨d, hmon, hd1, hd4⟩, hl⟩ := ckS_fld hc
   have hd := hmon.1
   have lF : ∀ i, i < 8 → ∀ j, j < 64 → F i j < n := fun i hi => (hl F (by simp) i hi).1
   have rF : rsk n m F := ckS_rsk hl (by simp)
   have rG : rsk n m G := ckS_rsk hl (by simp)
   have hirr := ckS_irr hc hmon
   obtain ⟨b1, b2⟩ := zsd G
   have hn2 : ¬ (skD F < 0 ∨ skD G < 0) := by omega
   by_cases hfit : skD (eu n m d 9 F G (sng 0 oneP) (fun _ _ => 0)).2 + skD F ≤ 7
   · have HV := Lib.hid (lmV_0 hc hd hn2 hfit)
     have h0 : 0 ≤ deg m := by omega
     have HMU := Lib.hid (fun W => l03Multiple_ok n m F G W hpr lm d hmon hirr (by omega) rF rG (by omega) (by omega) hfit)
     clear hl rF rG hirr hmon b1 b2 lm hpr hd lF hn2 h0 hd1 hd4
     clear hc
     go_upto_region 6 with (first | (refine zlg rfl 26 (.tmp 6) rfl _ rfl 512 26 _ (B1) _ Try.underlying26 rfl Try.size26 ?_) | (go_at_call 10; with_reducible refine (l03Deg_any F _).mono ?_; rintro e W3 ⟨rfl, hW3⟩; replace B0 := B0.zw hW3; replace B1 := B1.zw hW3; replace B2 := B2.zw hW3; replace B3 := B3.zw hW3; replace hb := (hb).trans (hW3.mono (hb).size)) | (refine zlg rfl 26 (.tmp 7) rfl _ rfl 512 26 _ (B2) _ Try.underlying26 rfl Try.size26 ?_) | (go_at_call 10; with_reducible refine (l03Deg_any G _).mono ?_; rintro e W4 ⟨rfl, hW4⟩; replace B0 := B0.zw hW4; replace B1 := B1.zw hW4; replace B2 := B2.zw hW4; replace B3 := B3.zw hW4; replace hb := (hb).trans (hW4.mono (hb).size)))
     have lt_B0 := B0.lt
     have lt_B1 := B1.lt
     have lt_B2 := B2.lt
     have lt_B3 := B3.lt
     go_upto_region 9 with (first | rw [← z64] | rw [← zero512] | (refine zla (.tmp 5) B0 Try.underlying24 Try.size24 ?_) | (refine zla (.tmp 6) B1 Try.underlying26 Try.size26 ?_) | (refine zla (.tmp 7) B2 Try.underlying26 Try.size26 ?_) | (go_at_call 11; refine (HMU.out _).mono ?_; rintro e W5 ⟨rfl, hW5⟩; replace B0 := B0.zw hW5; replace B1 := B1.zw hW5; replace B2 := B2.zw hW5; replace B3 := B3.zw hW5; replace hb := (hb).trans (hW5.mono (hb).size)) | (refine wpList_store_blk rfl 26 (.tmp 11) (.tmp 41) rfl _ 512 (fl 64 (moS n m (tmP n m d (eu n m d 9 F G (sng 0 oneP) (fun _ _ => 0)).2 F))) rfl rfl 26 _ ((Blk.new W5 512 26 (fl 64 (fun _ _ => 0)))) Try.size26 ?_; try simp only [Act.put]; go_upto_region 9 with (fail)))
     have lt_B0 := B0.lt
     have lt_B1 := B1.lt
     have lt_B2 := B2.lt
     have lt_B3 := B3.lt
     have lhb := hb.size
     obtain ⟨W6, hwo, hzQ⟩ : ∃ v : World, v = ((W5.alloc (.cells (zb 512 (fl 64 (fun _ _ => 0))) 26)).setRow (W5.heap.size) (zb 512 (fl 64 (moS n m (tmP n m d (eu n m d 9 F G (sng 0 oneP) (fun _ _ => 0)).2 F))))) ∧ Blk v (w.heap.size) 64 24 (m) ∧ Blk v (w.heap.size + 1) 512 26 (fl 64 F) ∧ Blk v (w.heap.size + 1 + 1) 512 26 (fl 64 G) ∧ Blk v (w.heap.size + 1 + 1 + 1) 512 26 (fl 64 (fun _ _ => 0)) ∧ Blk v (W5.heap.size) 512 26 (fl 64 (moS n m (tmP n m d (eu n m d 9 F G (sng 0 oneP) (fun _ _ => 0)).2 F))) ∧ Below w.heap.size w v := ⟨_, rfl, ((B0.alloc (.cells (zb 512 (fl 64 (fun _ _ => 0))) 26)).rowOther (by omega)), ((B1.alloc (.cells (zb 512 (fl 64 (fun _ _ => 0))) 26)).rowOther (by omega)), ((B2.alloc (.cells (zb 512 (fl 64 (fun _ _ => 0))) 26)).rowOther (by omega)), ((B3.alloc (.cells (zb 512 (fl 64 (fun _ _ => 0))) 26)).rowOther (by omega)), ((Blk.new W5 512 26 (fl 64 (fun _ _ => 0))).row (fl 64 (moS n m (tmP n m d (eu n m d 9 F G (sng 0 oneP) (fun _ _ => 0)).2 F)))), (zr (hb.alloc (by have := hb.size; simp; omega) (.cells (zb 512 (fl 64 (fun _ _ => 0))) 26)) (by omega) _)⟩
     rw [← hwo]
     clear hwo B0 B1 B2 B3 hb
     obtain ⟨B0, B1, B2, B3, B4, hb⟩ := hzQ
     obtain ⟨N1, hNN⟩ : ∃ n : Nat, n = W5.heap.size := ⟨_, rfl⟩
     rw [← hNN] at lt_B0 lt_B1 lt_B2 lt_B3 lhb B4 ⊢
     clear hNN
     have zN1_0 := lt_B0
     have zN1_1 := lt_B1
     have zN1_2 := lt_B2
     have zN1_3 := lt_B3
     have zN1 := lhb
     clear lt_B0 lt_B1 lt_B2 lt_B3 lhb
     try simp only [Act.put, pA, pB, pC]
     have lt_B0 := B0.lt
     have lt_B1 := B1.lt
     have lt_B2 := B2.lt
     have lt_B3 := B3.lt
     have lt_B4 := B4.lt
     go_wp2_with (first | rw [← z64] | rw [← zero512] | (refine zla (.tmp 11) B4 Try.underlying26 Try.size26 ?_) | (refine zsr (.tmp 8) (.tmp 46) (fl 64 (moS n m (tmP n m d (eu n m d 9 F G (sng 0 oneP) (fun _ _ => 0)).2 F))) B3 Try.size26 ?_; try simp only [Act.put]; go_wp2_with fail))
     obtain ⟨W7, hwo, hzQ⟩ : ∃ v : World, v = (W6.setRow (w.heap.size + 1 + 1 + 1) (zb 512 (fl 64 (moS n m (tmP n m d (eu n m d 9 F G (sng 0 oneP) (fun _ _ => 0)).2 F))))) ∧ Blk v (w.heap.size) 64 24 (m) ∧ Blk v (w.heap.size + 1) 512 26 (fl 64 F) ∧ Blk v (w.heap.size + 1 + 1) 512 26 (fl 64 G) ∧ Blk v (w.heap.size + 1 + 1 + 1) 512 26 (fl 64 (moS n m (tmP n m d (eu n m d 9 F G (sng 0 oneP) (fun _ _ => 0)).2 F))) ∧ Blk v (N1) 512 26 (fl 64 (moS n m (tmP n m d (eu n m d 9 F G (sng 0 oneP) (fun _ _ => 0)).2 F))) ∧ Below w.heap.size w v := ⟨_, rfl, (B0.rowOther (by omega)), (B1.rowOther (by omega)), (B2.rowOther (by omega)), (B3.row (fl 64 (moS n m (tmP n m d (eu n m d 9 F G (sng 0 oneP) (fun _ _ => 0)).2 F)))), (B4.rowOther (by omega)), (zr hb (by omega) _)⟩
     rw [← hwo]
     clear hwo B0 B1 B2 B3 B4 hb
     obtain ⟨B0, B1, B2, B3, B4, hb⟩ := hzQ
     try simp only [Act.put, pA, pB, pC]
     refine bodyPost_ret (zrt rfl _ _ _ 512 _ _ rfl B3 _ Try.underlying26 rfl Try.size26) rfl ⟨by first | (rw [HV.out]; rfl) | rw [HV.out], hb⟩
   have HV := Lib.hid (lmV_3 hc hd hn2 hfit)
   have h0 : 0 ≤ deg m := by omega
   have HMU := Lib.hid (fun W => l03Multiple_no n m F G W hpr lm d hmon hirr (by omega) rF rG (by omega) (by omega) hfit)
   clear hl rF rG hirr hmon b1 b2 lm hpr hd lF hn2 h0 hd1 hd4
   clear hc
   go_upto_region 6 with (first | (refine zlg rfl 26 (.tmp 6) rfl _ rfl 512 26 _ (B1) _ Try.underlying26 rfl Try.size26 ?_) | (go_at_call 10; with_reducible refine (l03Deg_any F _).mono ?_; rintro e W3 ⟨rfl, hW3⟩; replace B0 := B0.zw hW3; replace B1 := B1.zw hW3; replace B2 := B2.zw hW3; replace B3 := B3.zw hW3; replace hb := (hb).trans (hW3.mono (hb).size)) | (refine zlg rfl 26 (.tmp 7) rfl _ rfl 512 26 _ (B2) _ Try.underlying26 rfl Try.size26 ?_) | (go_at_call 10; with_reducible refine (l03Deg_any G _).mono ?_; rintro e W4 ⟨rfl, hW4⟩; replace B0 := B0.zw hW4; replace B1 := B1.zw hW4; replace B2 := B2.zw hW4; replace B3 := B3.zw hW4; replace hb := (hb).trans (hW4.mono (hb).size)))
   have lt_B0 := B0.lt
   have lt_B1 := B1.lt
   have lt_B2 := B2.lt
   have lt_B3 := B3.lt
   go_upto_region 8 with (first | rw [← z64] | rw [← zero512] | (refine zla (.tmp 5) B0 Try.underlying24 Try.size24 ?_) | (refine zla (.tmp 6) B1 Try.underlying26 Try.size26 ?_) | (refine zla (.tmp 7) B2 Try.underlying26 Try.size26 ?_) | (go_at_call 11; refine (HMU.out _).mono ?_; rintro e W5 ⟨rfl, hW5⟩; replace B0 := B0.zw hW5; replace B1 := B1.zw hW5; replace B2 := B2.zw hW5; replace B3 := B3.zw hW5; replace hb := (hb).trans (hW5.mono (hb).size)) | (refine wpList_store_blk rfl 26 (.tmp 11) (.tmp 41) rfl _ 512 (fl 64 (fun _ _ => 0)) rfl rfl 26 _ ((Blk.new W5 512 26 (fl 64 (fun _ _ => 0)))) Try.size26 ?_; try simp only [Act.put]; go_upto_region 8 with (fail)))
   have lt_B0 := B0.lt
   have lt_B1 := B1.lt
   have lt_B2 := B2.lt
   have lt_B3 := B3.lt
   have lhb := hb.size
   obtain ⟨W6, hwo, hzQ⟩ : ∃ v : World, v = ((W5.alloc (.cells (zb 512 (fl 64 (fun _ _ => 0))) 26)).setRow (W5.heap.size) (zb 512 (fl 64 (fun _ _ => 0)))) ∧ Blk v (w.heap.size) 64 24 (m) ∧ Blk v (w.heap.size + 1) 512 26 (fl 64 F) ∧ Blk v (w.heap.size + 1 + 1) 512 26 (fl 64 G) ∧ Blk v (w.heap.size + 1 + 1 + 1) 512 26 (fl 64 (fun _ _ => 0)) ∧ Blk v (W5.heap.size) 512 26 (fl 64 (fun _ _ => 0)) ∧ Below w.heap.size w v := ⟨_, rfl, ((B0.alloc (.cells (zb 512 (fl 64 (fun _ _ => 0))) 26)).rowOther (by omega)), ((B1.alloc (.cells (zb 512 (fl 64 (fun _ _ => 0))) 26)).rowOther (by omega)), ((B2.alloc (.cells (zb 512 (fl 64 (fun _ _ => 0))) 26)).rowOther (by omega)), ((B3.alloc (.cells (zb 512 (fl 64 (fun _ _ => 0))) 26)).rowOther (by omega)), ((Blk.new W5 512 26 (fl 64 (fun _ _ => 0))).row (fl 64 (fun _ _ => 0))), (zr (hb.alloc (by have := hb.size; simp; omega) (.cells (zb 512 (fl 64 (fun _ _ => 0))) 26)) (by omega) _)⟩
   rw [← hwo]
   clear hwo B0 B1 B2 B3 hb
   obtain ⟨B0, B1, B2, B3, B4, hb⟩ := hzQ
   obtain ⟨N1, hNN⟩ : ∃ n : Nat, n = W5.heap.size := ⟨_, rfl⟩
   rw [← hNN] at lt_B0 lt_B1 lt_B2 lt_B3 lhb B4 ⊢
   clear hNN
   have zN1_0 := lt_B0
   have zN1_1 := lt_B1
   have zN1_2 := lt_B2
   have zN1_3 := lt_B3
   have zN1 := lhb
   clear lt_B0 lt_B1 lt_B2 lt_B3 lhb
   try simp only [Act.put, pA, pB, pC]
   have lt_B0 := B0.lt
   have lt_B1 := B1.lt
   have lt_B2 := B2.lt
   have lt_B3 := B3.lt
   have lt_B4 := B4.lt
   go_wp2_with (first | rw [← z64] | rw [← zero512] | (refine zsr (.tmp 8) (.tmp 45) (fl 64 (fun _ _ => 0)) B3 Try.size26 ?_; try simp only [Act.put]; go_wp2_with fail))
   obtain ⟨W7, hwo, hzQ⟩ : ∃ v : World, v = (W6.setRow (w.heap.size + 1 + 1 + 1) (zb 512 (fl 64 (fun _ _ => 0)))) ∧ Blk v (w.heap.size) 64 24 (m) ∧ Blk v (w.heap.size + 1) 512 26 (fl 64 F) ∧ Blk v (w.heap.size + 1 + 1) 512 26 (fl 64 G) ∧ Blk v (w.heap.size + 1 + 1 + 1) 512 26 (fl 64 (fun _ _ => 0)) ∧ Blk v (N1) 512 26 (fl 64 (fun _ _ => 0)) ∧ Below w.heap.size w v := ⟨_, rfl, (B0.rowOther (by omega)), (B1.rowOther (by omega)), (B2.rowOther (by omega)), (B3.row (fl 64 (fun _ _ => 0))), (B4.rowOther (by omega)), (zr hb (by omega) _)⟩
   rw [← hwo]
   clear hwo B0 B1 B2 B3 B4 hb
   obtain ⟨B0, B1, B2, B3, B4, hb⟩ := hzQ
   try simp only [Act.put, pA, pB, pC]
   refine bodyPost_ret (zrt rfl _ _ _ 512 _ _ rfl B3 _ Try.underlying26 rfl Try.size26) rfl ⟨by first | (rw [HV.out]; rfl) | rw [HV.out], hb⟩
 have HV := Lib.hid (lmV_1 hc)
 go_upto_region 5 with (first | (refine zla (.tmp 5) B0 Try.underlying24 Try.size24 ?_) | (refine zla (.tmp 6) B1 Try.underlying26 Try.size26 ?_) | (refine zla (.tmp 7) B2 Try.underlying26 Try.size26 ?_) | (refine zbk rfl 45 _ [F, G] rfl 26 Try.underlying45 Try.elem26 (by simp) (by simp) rfl ?_; intro wa hps hba) | (go_at_call 9; refine (l03Code_any _ m hm [F, G] (by simp [hF, hG]) (by simp) _ _ hps).mono ?_; rintro e W2 ⟨rfl, hbb⟩; rw [hc]))
 have hBB : Below W1.heap.size W1 W2 := hba.trans (hbb.mono hba.size)
 replace B0 := B0.zw hBB
 replace B1 := B1.zw hBB
 replace B2 := B2.zw hBB
 replace B3 := B3.zw hBB
 replace hb := hb.trans (hBB.mono hb.size)
 clear hBB hba hbb hps
 clear hc
 go_wp2_with (first | rw [← z64] | rw [← zero512] | (refine zsr (.tmp 8) (.tmp 33) (fl 64 (fun _ _ => 0)) B3 Try.size26 ?_; try simp only [Act.put]; go_wp2_with fail))
 obtain ⟨W3, hwo, hzQ⟩ : ∃ v : World, v = (W2.setRow (w.heap.size + 1 + 1 + 1) (zb 512 (fl 64 (fun _ _ => 0)))) ∧ Blk v (w.heap.size) 64 24 (m) ∧ Blk v (w.heap.size + 1) 512 26 (fl 64 F) ∧ Blk v (w.heap.size + 1 + 1) 512 26 (fl 64 G) ∧ Blk v (w.heap.size + 1 + 1 + 1) 512 26 (fl 64 (fun _ _ => 0)) ∧ Below w.heap.size w v := ⟨_, rfl, (B0.rowOther (by omega)), (B1.rowOther (by omega)), (B2.rowOther (by omega)), (B3.row (fl 64 (fun _ _ => 0))), (zr hb (by omega) _)⟩
 rw [← hwo]
 clear hwo B0 B1 B2 B3 hb
 obtain ⟨B0, B1, B2, B3, hb⟩ := hzQ
 try simp only [Act.put, pA, pB, pC]
 refine bodyPost_ret (zrt rfl _ _ _ 512 _ _ rfl B3 _ Try.underlying26 rfl Try.size26) rfl ⟨by first | (rw [HV.out]; rfl) | rw [HV.out], hb⟩
theorem impl_LeftMultiple_any (p : Int) (m : Nat → Nat) (F G : Nat → Nat → Nat) (hm : byte m) (hF : ∀ i, byte (F i)) (hG : ∀ i, byte (G i)) (w : World) :
 Calls Try.prog 7 #[.int .i64 p, .agg (zb 64 m), .agg (zb 512 (fl 64 F)), .agg (zb 512 (fl 64 G))] w fun e w' => e = .returned (.tuple #[.agg (zb 512 (fl 64 (lmV p m F G).1)), .int .i64 (lmV p m F G).2]) ∧ Below w.heap.size w w' := by
 go_enter Try.func7, Try.ntmps7
 go_upto_region 1 with (fail)
 rw [← zero512]
 obtain ⟨W1, hwo⟩ : ∃ v : World, v = ((((w.alloc (.cells (zb 64 (m)) 24)).alloc (.cells (zb 512 (fl 64 F)) 26)).alloc (.cells (zb 512 (fl 64 G)) 26)).alloc (.cells (zb 512 (fl 64 (fun _ _ => 0))) 26)) := ⟨_, rfl⟩
 have B0 : Blk W1 (w.heap.size) 64 24 (m) := by subst hwo; have := ((((Blk.new w 64 24 (m)).alloc (.cells (zb 512 (fl 64 F)) 26)).alloc (.cells (zb 512 (fl 64 G)) 26)).alloc (.cells (zb 512 (fl 64 (fun _ _ => 0))) 26)); simpa using this
 have B1 : Blk W1 (w.heap.size + 1) 512 26 (fl 64 F) := by subst hwo; have := (((Blk.new (w.alloc (.cells (zb 64 (m)) 24)) 512 26 (fl 64 F)).alloc (.cells (zb 512 (fl 64 G)) 26)).alloc (.cells (zb 512 (fl 64 (fun _ _ => 0))) 26)); simpa using this
 have B2 : Blk W1 (w.heap.size + 1 + 1) 512 26 (fl 64 G) := by subst hwo; have := ((Blk.new ((w.alloc (.cells (zb 64 (m)) 24)).alloc (.cells (zb 512 (fl 64 F)) 26)) 512 26 (fl 64 G)).alloc (.cells (zb 512 (fl 64 (fun _ _ => 0))) 26)); simpa using this
 have B3 : Blk W1 (w.heap.size + 1 + 1 + 1) 512 26 (fl 64 (fun _ _ => 0)) := by subst hwo; have := (Blk.new (((w.alloc (.cells (zb 64 (m)) 24)).alloc (.cells (zb 512 (fl 64 F)) 26)).alloc (.cells (zb 512 (fl 64 G)) 26)) 512 26 (fl 64 (fun _ _ => 0))); simpa using this
 have hb : Below w.heap.size w W1 := by subst hwo; exact (((((Below.refl _ _).alloc (Nat.le_refl _) _).alloc (by simp) _).alloc (by simp; omega) _).alloc (by simp; omega) _)
 rw [← hwo]
 clear hwo
 rcases ckS_two p m [F, G] with hc | hc
 · skip
   go_upto_region 4 with (first | (refine zla (.tmp 5) B0 Try.underlying24 Try.size24 ?_) | (refine zla (.tmp 6) B1 Try.underlying26 Try.size26 ?_) | (refine zla (.tmp 7) B2 Try.underlying26 Try.size26 ?_) | (refine zbk rfl 45 _ [F, G] rfl 26 Try.underlying45 Try.elem26 (by simp) (by simp) rfl ?_; intro wa hps hba) | (go_at_call 12; refine (checkSkews_any _ m hm [F, G] (by simp [hF, hG]) (by simp) _ _ hps).mono ?_; rintro e W2 ⟨rfl, hbb⟩; rw [hc]))
   have hBB : Below W1.heap.size W1 W2 := hba.trans (hbb.mono hba.size)
   replace B0 := B0.zw hBB
   replace B1 := B1.zw hBB
   replace B2 := B2.zw hBB
   replace B3 := B3.zw hBB
   replace hb := hb.trans (hBB.mono hb.size)
   clear hBB hba hbb hps
   by_cases hzF : skD F < 0
   · skip
     have HV := Lib.hid (lmV_5 hc (.inl hzF))
     clear hc
     have hgd := Try.noGuard26
     have heqF := fun W => run_equalIn_sk (P := Try.prog) W 9997 26 24 5 F (fun _ _ => 0) Try.underlying26 Try.underlying24 Try.underlying5 Try.size24 Try.size5
     rw [skE_zero, decide_eq_true hzF] at heqF
     go_upto_region 5 with (first | rw [← zero512] | (refine zla (.tmp 6) B1 Try.underlying26 Try.size26 ?_) | (refine zlg rfl 26 (.tmp 7) rfl _ rfl 512 26 _ (B2) _ Try.underlying26 rfl Try.size26 ?_))
     clear heqF hgd
     have lt_B0 := B0.lt
     have lt_B1 := B1.lt
     have lt_B2 := B2.lt
     have lt_B3 := B3.lt
     go_wp2_with (first | rw [← z64] | rw [← zero512] | (refine zsr (.tmp 8) (.tmp 32) (fl 64 (fun _ _ => 0)) B3 Try.size26 ?_; try simp only [Act.put]; go_wp2_with fail))
     obtain ⟨W3, hwo, hzQ⟩ : ∃ v : World, v = (W2.setRow (w.heap.size + 1 + 1 + 1) (zb 512 (fl 64 (fun _ _ => 0)))) ∧ Blk v (w.heap.size) 64 24 (m) ∧ Blk v (w.heap.size + 1) 512 26 (fl 64 F) ∧ Blk v (w.heap.size + 1 + 1) 512 26 (fl 64 G) ∧ Blk v (w.heap.size + 1 + 1 + 1) 512 26 (fl 64 (fun _ _ => 0)) ∧ Below w.heap.size w v := ⟨_, rfl, (B0.rowOther (by omega)), (B1.rowOther (by omega)), (B2.rowOther (by omega)), (B3.row (fl 64 (fun _ _ => 0))), (zr hb (by omega) _)⟩
     rw [← hwo]
     clear hwo B0 B1 B2 B3 hb
     obtain ⟨B0, B1, B2, B3, hb⟩ := hzQ
     try simp only [Act.put, pA, pB, pC]
     refine bodyPost_ret (zrt rfl _ _ _ 512 _ _ rfl B3 _ Try.underlying26 rfl Try.size26) rfl ⟨by first | (rw [HV.out]; rfl) | rw [HV.out], hb⟩
   by_cases hzG : skD G < 0
   · skip
     have HV := Lib.hid (lmV_5 hc (.inr hzG))
     clear hc
     have hgd := Try.noGuard26
     have heqF := fun W => run_equalIn_sk (P := Try.prog) W 9997 26 24 5 F (fun _ _ => 0) Try.underlying26 Try.underlying24 Try.underlying5 Try.size24 Try.size5
     rw [skE_zero, decide_eq_false hzF] at heqF
     have heqG := fun W => run_equalIn_sk (P := Try.prog) W 9997 26 24 5 G (fun _ _ => 0) Try.underlying26 Try.underlying24 Try.underlying5 Try.size24 Try.size5
     rw [skE_zero, decide_eq_true hzG] at heqG
     go_upto_region 5 with (first | rw [← zero512] | (refine zla (.tmp 6) B1 Try.underlying26 Try.size26 ?_) | (refine zlg rfl 26 (.tmp 7) rfl _ rfl 512 26 _ (B2) _ Try.underlying26 rfl Try.size26 ?_))
     clear heqF hgd heqG
     have lt_B0 := B0.lt
     have lt_B1 := B1.lt
     have lt_B2 := B2.lt
     have lt_B3 := B3.lt
     go_wp2_with (first | rw [← z64] | rw [← zero512] | (refine zsr (.tmp 8) (.tmp 32) (fl 64 (fun _ _ => 0)) B3 Try.size26 ?_; try simp only [Act.put]; go_wp2_with fail))
     obtain ⟨W3, hwo, hzQ⟩ : ∃ v : World, v = (W2.setRow (w.heap.size + 1 + 1 + 1) (zb 512 (fl 64 (fun _ _ => 0)))) ∧ Blk v (w.heap.size) 64 24 (m) ∧ Blk v (w.heap.size + 1) 512 26 (fl 64 F) ∧ Blk v (w.heap.size + 1 + 1) 512 26 (fl 64 G) ∧ Blk v (w.heap.size + 1 + 1 + 1) 512 26 (fl 64 (fun _ _ => 0)) ∧ Below w.heap.size w v := ⟨_, rfl, (B0.rowOther (by omega)), (B1.rowOther (by omega)), (B2.rowOther (by omega)), (B3.row (fl 64 (fun _ _ => 0))), (zr hb (by omega) _)⟩
     rw [← hwo]
     clear hwo B0 B1 B2 B3 hb
     obtain ⟨B0, B1, B2, B3, hb⟩ := hzQ
     try simp only [Act.put, pA, pB, pC]
     refine bodyPost_ret (zrt rfl _ _ _ 512 _ _ rfl B3 _ Try.underlying26 rfl Try.size26) rfl ⟨by first | (rw [HV.out]; rfl) | rw [HV.out], hb⟩
   skip
   obtain ⟨n, rfl, hpr, lm, ⟨d, hmon, hd1, hd4⟩, hl⟩ := ckS_fld hc
   have hd := hmon.1
   have lF : ∀ i, i < 8 → ∀ j, j < 64 → F i j < n := fun i hi => (hl F (by simp) i hi).1
   have rF : rsk n m F := ckS_rsk hl (by simp)
   have rG : rsk n m G := ckS_rsk hl (by simp)
   have hirr := ckS_irr hc hmon
   obtain ⟨b1, b2⟩ := zsd G
   have hn2 : ¬ (skD F < 0 ∨ skD G < 0) := by omega
   have HCM := Lib.hid (fun W => common_any n m F G W hpr lm d hmon hirr (by omega) rF rG)
   have hgd := Try.noGuard26
   have heqF := fun W => run_equalIn_sk (P := Try.prog) W 9997 26 24 5 F (fun _ _ => 0) Try.underlying26 Try.underlying24 Try.underlying5 Try.size24 Try.size5
   rw [skE_zero, decide_eq_false hzF] at heqF
   have heqG := fun W => run_equalIn_sk (P := Try.prog) W 9997 26 24 5 G (fun _ _ => 0) Try.underlying26 Try.underlying24 Try.underlying5 Try.size24 Try.size5
   rw [skE_zero, decide_eq_false hzG] at heqG
   by_cases hfit : skD (eu n m d 9 F G (sng 0 oneP) (fun _ _ => 0)).2 + skD F ≤ 7
   · have HV := Lib.hid (lmV_0 hc hd hn2 hfit)
     have h0 : 0 ≤ deg m := by omega
     obtain ⟨e1, e2, e3, e4⟩ := eu_end hpr lm hmon hirr (by omega) (by omega) (by omega) 9 F G (sng 0 oneP) (fun _ _ => 0) (EI_start hpr lm hmon hirr (by omega) rF rG) (by omega)
     have HTM := Lib.hid (fun W => skTimes_any n m (eu n m d 9 F G (sng 0 oneP) (fun _ _ => 0)).2 F W hpr lm d hd hd1 (by omega) (fun i hi8 => (e2 i hi8).1) rF hfit)
     have hMO : 0 ≤ skD (tmP n m d (eu n m d 9 F G (sng 0 oneP) (fun _ _ => 0)).2 F) := by
      have f7 := zsd F
      have := tmP_deg hpr lm hmon hirr (by omega) e2 rF (a := (skD (eu n m d 9 F G (sng 0 oneP) (fun _ _ => 0)).2).toNat) (b := (skD F).toNat) (by omega) (by omega) (by omega)
      omega
     have HMO := Lib.hid (fun W => monic_any n m (tmP n m d (eu n m d 9 F G (sng 0 oneP) (fun _ _ => 0)).2 F) W hpr lm d hmon hirr (by omega) (fun i _ => tmP_rsd hpr lm h0 i) hMO)
     clear e1 e2 e3 e4 hMO
     clear hl rF rG hirr hmon b1 b2 lm hpr hd lF hn2 h0 hd1 hd4
     obtain ⟨fb1, fb2⟩ := zsd F
     obtain ⟨vb1, vb2⟩ := zsd (eu n m d 9 F G (sng 0 oneP) (fun _ _ => 0)).2
     clear hc
     go_upto_region 6 with (first | rw [← zero512] | (refine zla (.tmp 6) B1 Try.underlying26 Try.size26 ?_) | (refine zlg rfl 26 (.tmp 7) rfl _ rfl 512 26 _ (B2) _ Try.underlying26 rfl Try.size26 ?_))
     clear heqF hgd heqG
     have lt_B0 := B0.lt
     have lt_B1 := B1.lt
     have lt_B2 := B2.lt
     have lt_B3 := B3.lt
     go_upto_region 7 with (first | rw [← z64] | rw [← fdC_zero] | (refine zla (.tmp 5) B0 Try.underlying24 Try.size24 ?_) | (refine zbo rfl 38 _ rfl (fdC (n : Int) m).toArray (by rw [Array.toList_map]; exact built_fd (n : Int) m) ?_) | (refine wpList_store_rowv rfl 38 (.tmp 11) (.tmp 35) rfl _ rfl (fdC (n : Int) m).toArray rfl 38 _ ((Row.new W2 38 (fdC 0 (fun _ => 0)).toArray)) 65 Try.size38 (by simp [fdC_len]) (by simp [fdC_len]) (fdC_all _ _) ?_; try simp only [Act.put]))
     have lt_B0 := B0.lt
     have lt_B1 := B1.lt
     have lt_B2 := B2.lt
     have lt_B3 := B3.lt
     have lhb := hb.size
     obtain ⟨W3, hwo, hzQ⟩ : ∃ v : World, v = ((W2.alloc (.cells (fdC 0 (fun _ => 0)).toArray 38)).setRow (W2.heap.size) (fdC (n : Int) m).toArray) ∧ Blk v (w.heap.size) 64 24 (m) ∧ Blk v (w.heap.size + 1) 512 26 (fl 64 F) ∧ Blk v (w.heap.size + 1 + 1) 512 26 (fl 64 G) ∧ Blk v (w.heap.size + 1 + 1 + 1) 512 26 (fl 64 (fun _ _ => 0)) ∧ Row v (W2.heap.size) 38 (fdC (n : Int) m).toArray ∧ Below w.heap.size w v := ⟨_, rfl, ((B0.alloc (.cells (fdC 0 (fun _ => 0)).toArray 38)).rowOther (by omega)), ((B1.alloc (.cells (fdC 0 (fun _ => 0)).toArray 38)).rowOther (by omega)), ((B2.alloc (.cells (fdC 0 (fun _ => 0)).toArray 38)).rowOther (by omega)), ((B3.alloc (.cells (fdC 0 (fun _ => 0)).toArray 38)).rowOther (by omega)), ((Row.new W2 38 (fdC 0 (fun _ => 0)).toArray).row (fdC (n : Int) m).toArray), (zr (hb.alloc (by have := hb.size; simp; omega) (.cells (fdC 0 (fun _ => 0)).toArray 38)) (by omega) _)⟩
     rw [← hwo]
     clear hwo B0 B1 B2 B3 hb
     obtain ⟨B0, B1, B2, B3, B4, hb⟩ := hzQ
     obtain ⟨N1, hNN⟩ : ∃ n : Nat, n = W2.heap.size := ⟨_, rfl⟩
     rw [← hNN] at lt_B0 lt_B1 lt_B2 lt_B3 lhb B4 ⊢
     clear hNN
     have zN1_0 := lt_B0
     have zN1_1 := lt_B1
     have zN1_2 := lt_B2
     have zN1_3 := lt_B3
     have zN1 := lhb
     clear lt_B0 lt_B1 lt_B2 lt_B3 lhb
     try simp only [Act.put, pA, pB, pC]
     have lt_B0 := B0.lt
     have lt_B1 := B1.lt
     have lt_B2 := B2.lt
     have lt_B3 := B3.lt
     have lt_B4 := B4.lt
     go_upto_region 8 with (first | rw [← z64] | rw [← zero512] | (refine zla (.tmp 6) B1 Try.underlying26 Try.size26 ?_) | (refine zlr rfl 38 (.tmp 11) rfl _ rfl 38 (fdC (n : Int) m).toArray (B4) _ Try.underlying38 rfl 65 Try.size38 (by simp [fdC_len]) ?_) | (refine zla (.tmp 7) B2 Try.underlying26 Try.size26 ?_) | (go_at_call 13; refine (HCM.out _).mono ?_; rintro e W4 ⟨rfl, hW4⟩; replace B0 := B0.zw hW4; replace B1 := B1.zw hW4; replace B2 := B2.zw hW4; replace B3 := B3.zw hW4; replace B4 := B4.zw hW4; replace hb := (hb).trans (hW4.mono (hb).size)) | (refine wpList_store_blk rfl 26 (.tmp 12) (.tmp 41) rfl _ 512 (fl 64 (eu n m d 9 F G (sng 0 oneP) (fun _ _ => 0)).1) rfl rfl 26 _ (((Blk.new W4 512 26 (fl 64 (fun _ _ => 0))).alloc (.cells (zb 512 (fl 64 (fun _ _ => 0))) 26))) Try.size26 ?_; try simp only [Act.put]) | (refine wpList_store_blk rfl 26 (.tmp 13) (.tmp 42) rfl _ 512 (fl 64 (eu n m d 9 F G (sng 0 oneP) (fun _ _ => 0)).2) rfl rfl 26 _ (((show Blk ((W4.alloc (.cells (zb 512 (fl 64 (fun _ _ => 0))) 26)).alloc (.cells (zb 512 (fl 64 (fun _ _ => 0))) 26)) (W4.heap.size + 1) 512 26 (fl 64 (fun _ _ => 0)) by have := Blk.new (W4.alloc (.cells (zb 512 (fl 64 (fun _ _ => 0))) 26)) 512 26 (fl 64 (fun _ _ => 0)); simpa using this).rowOther (by omega))) Try.size26 ?_; try simp only [Act.put]))
     have lt_B0 := B0.lt
     have lt_B1 := B1.lt
     have lt_B2 := B2.lt
     have lt_B3 := B3.lt
     have lt_B4 := B4.lt
     have lhb := hb.size
     obtain ⟨W5, hwo, hzQ⟩ : ∃ v : World, v = ((((W4.alloc (.cells (zb 512 (fl 64 (fun _ _ => 0))) 26)).alloc (.cells (zb 512 (fl 64 (fun _ _ => 0))) 26)).setRow (W4.heap.size) (zb 512 (fl 64 (eu n m d 9 F G (sng 0 oneP) (fun _ _ => 0)).1))).setRow (W4.heap.size + 1) (zb 512 (fl 64 (eu n m d 9 F G (sng 0 oneP) (fun _ _ => 0)).2))) ∧ Blk v (w.heap.size) 64 24 (m) ∧ Blk v (w.heap.size + 1) 512 26 (fl 64 F) ∧ Blk v (w.heap.size + 1 + 1) 512 26 (fl 64 G) ∧ Blk v (w.heap.size + 1 + 1 + 1) 512 26 (fl 64 (fun _ _ => 0)) ∧ Row v (N1) 38 (fdC (n : Int) m).toArray ∧ Blk v (W4.heap.size) 512 26 (fl 64 (eu n m d 9 F G (sng 0 oneP) (fun _ _ => 0)).1) ∧ Blk v (W4.heap.size + 1) 512 26 (fl 64 (eu n m d 9 F G (sng 0 oneP) (fun _ _ => 0)).2) ∧ Below w.heap.size w v := ⟨_, rfl, ((((B0.alloc (.cells (zb 512 (fl 64 (fun _ _ => 0))) 26)).alloc (.cells (zb 512 (fl 64 (fun _ _ => 0))) 26)).rowOther (by omega)).rowOther (by omega)), ((((B1.alloc (.cells (zb 512 (fl 64 (fun _ _ => 0))) 26)).alloc (.cells (zb 512 (fl 64 (fun _ _ => 0))) 26)).rowOther (by omega)).rowOther (by omega)), ((((B2.alloc (.cells (zb 512 (fl 64 (fun _ _ => 0))) 26)).alloc (.cells (zb 512 (fl 64 (fun _ _ => 0))) 26)).rowOther (by omega)).rowOther (by omega)), ((((B3.alloc (.cells (zb 512 (fl 64 (fun _ _ => 0))) 26)).alloc (.cells (zb 512 (fl 64 (fun _ _ => 0))) 26)).rowOther (by omega)).rowOther (by omega)), ((((B4.alloc (.cells (zb 512 (fl 64 (fun _ _ => 0))) 26)).alloc (.cells (zb 512 (fl 64 (fun _ _ => 0))) 26)).rowOther (by omega)).rowOther (by omega)), ((((Blk.new W4 512 26 (fl 64 (fun _ _ => 0))).alloc (.cells (zb 512 (fl 64 (fun _ _ => 0))) 26)).row (fl 64 (eu n m d 9 F G (sng 0 oneP) (fun _ _ => 0)).1)).rowOther (by omega)), (((show Blk ((W4.alloc (.cells (zb 512 (fl 64 (fun _ _ => 0))) 26)).alloc (.cells (zb 512 (fl 64 (fun _ _ => 0))) 26)) (W4.heap.size + 1) 512 26 (fl 64 (fun _ _ => 0)) by have := Blk.new (W4.alloc (.cells (zb 512 (fl 64 (fun _ _ => 0))) 26)) 512 26 (fl 64 (fun _ _ => 0)); simpa using this).rowOther (by omega)).row (fl 64 (eu n m d 9 F G (sng 0 oneP) (fun _ _ => 0)).2)), (zr (zr ((hb.alloc (by have := hb.size; simp; omega) (.cells (zb 512 (fl 64 (fun _ _ => 0))) 26)).alloc (by have := hb.size; simp; omega) (.cells (zb 512 (fl 64 (fun _ _ => 0))) 26)) (by omega) _) (by omega) _)⟩
     rw [← hwo]
     clear hwo B0 B1 B2 B3 B4 hb
     obtain ⟨B0, B1, B2, B3, B4, B5, B6, hb⟩ := hzQ
     obtain ⟨N2, hNN⟩ : ∃ n : Nat, n = W4.heap.size := ⟨_, rfl⟩
     rw [← hNN] at lt_B0 lt_B1 lt_B2 lt_B3 lt_B4 lhb B5 B6 ⊢
     clear hNN
     have zN2_0 := lt_B0
     have zN2_1 := lt_B1
     have zN2_2 := lt_B2
     have zN2_3 := lt_B3
     have zN2_4 := lt_B4
     have zN2 := lhb
     clear lt_B0 lt_B1 lt_B2 lt_B3 lt_B4 lhb
     try simp only [Act.put, pA, pB, pC]
     refine zq Try.mixed (by kernel_rfl) (by kernel_rfl) (fun v => by (simp only [frL, Act.put, pA, pB, pC, Nat.reduceAdd, Nat.zero_add]; exact rfl))
      (fun L v W6 => Below W5.heap.size W5 W6 ∧ VF L v [some (.agg (zb 512 (fl 64 (eu n m d 9 F G (sng 0 oneP) (fun _ _ => 0)).2))), some (.int .i64 (skD (eu n m d 9 F G (sng 0 oneP) (fun _ _ => 0)).2)), some (.agg (zb 512 (fl 64 F))), some (.int .i64 (skD F)), some (.int .i64 (skD (eu n m d 9 F G (sng 0 oneP) (fun _ _ => 0)).2 + skD F)), some (.bool false)]) ?_ ?_ ?_
     · intro v hv0
       exact ⟨(Below.refl _ W5).drew, VF.start⟩
     · refine (.cons rfl ?_ (.cons rfl ?_ (.cons rfl ?_ (.cons rfl ?_ (.cons rfl ?_ (.cons rfl ?_ (.nil _)))))))
       all_goals intro L v W6 hd hn ⟨hY, V⟩ K hK
       · refine zlc (B6.zw hY) Try.underlying26 Try.size26 ?_
         exact hK _ _ _ rfl ⟨hY, V.step 0 rfl⟩
       · have e0 := V.at (zdq hd 0 rfl) rfl
         go_wp2_with (go_at_call 14; refine (skDegree_any (eu n m d 9 F G (sng 0 oneP) (fun _ _ => 0)).2 _).mono ?_; rintro e wy ⟨rfl, hy⟩)
         exact hK _ (.int .i64 (skD (eu n m d 9 F G (sng 0 oneP) (fun _ _ => 0)).2)) _ (by simp only [Act.put, pA, pB, pC, e0]) ⟨hY.trans (hy.mono hY.size), V.step 1 rfl⟩
       · refine zlc (B1.zw hY) Try.underlying26 Try.size26 ?_
         exact hK _ _ _ rfl ⟨hY, V.step 2 rfl⟩
       · have e2 := V.at (zdq hd 2 rfl) rfl
         go_wp2_with (go_at_call 14; refine (skDegree_any F _).mono ?_; rintro e wy ⟨rfl, hy⟩)
         exact hK _ (.int .i64 (skD F)) _ (by simp only [Act.put, pA, pB, pC, e2]) ⟨hY.trans (hy.mono hY.size), V.step 3 rfl⟩
       · have e1 := V.at (zdq hd 1 rfl) rfl
         have e3 := V.at (zdq hd 3 rfl) rfl
         go_wp2_with fail
         exact hK _ (.int .i64 (skD (eu n m d 9 F G (sng 0 oneP) (fun _ _ => 0)).2 + skD F)) _ (by simp only [Act.put, pA, pB, pC, e1, e3]) ⟨hY, V.step 4 rfl⟩
       have e4 := V.at (zdq hd 4 rfl) rfl
       go_wp2_with fail
       try rw [show decide (7 < skD (eu n m d 9 F G (sng 0 oneP) (fun _ _ => 0)).2 + skD F) = false by simp; omega]
       exact hK _ (.bool false) _ (by simp only [Act.put, pA, pB, pC, e4]) ⟨hY, V.step 5 rfl⟩
     intro L v W6 hL ⟨hY, V⟩
     have e0 := V.at (hL 0 (by decide)) rfl
     have e1 := V.at (hL 1 (by decide)) rfl
     have e2 := V.at (hL 2 (by decide)) rfl
     have e3 := V.at (hL 3 (by decide)) rfl
     have e4 := V.at (hL 4 (by decide)) rfl
     have e5 := V.at (hL 5 (by decide)) rfl
     clear hL V
     replace B0 := B0.zw hY
     replace B1 := B1.zw hY
     replace B2 := B2.zw hY
     replace B3 := B3.zw hY
     replace B4 := B4.zw hY
     replace B5 := B5.zw hY
     replace B6 := B6.zw hY
     replace hb := hb.trans (hY.mono hb.size)
     clear hY
     simp only [Exit.then, e0, e1, e2, e3, e4, e5]
     clear e0 e1 e2 e3 e4 e5
     go_upto_region 10 with (fail)
     have lt_B0 : (w.heap.size) < W6.heap.size := B0.lt
     have lt_B1 : (w.heap.size + 1) < W6.heap.size := B1.lt
     have lt_B2 : (w.heap.size + 1 + 1) < W6.heap.size := B2.lt
     have lt_B3 : (w.heap.size + 1 + 1 + 1) < W6.heap.size := B3.lt
     have lt_B4 : (N1) < W6.heap.size := B4.lt
     have lt_B5 : (N2) < W6.heap.size := B5.lt
     have lt_B6 : (N2 + 1) < W6.heap.size := B6.lt
     have hbase : w.heap.size ≤ W6.heap.size := hb.size
     refine zq Try.mixed (by kernel_rfl) (by kernel_rfl) (fun v => by (simp only [frL, Act.put, pA, pB, pC, Nat.reduceAdd, Nat.zero_add]; exact rfl))
      (fun L v W7 => Below w.heap.size w W7 ∧ Kx [w.heap.size + 1 + 1 + 1] W6 W7 ∧ (∃ g, Blk W7 (w.heap.size + 1 + 1 + 1) 512 26 (g)) ∧ (L 6 = false → Blk W7 (w.heap.size + 1 + 1 + 1) 512 26 (fl 64 (fun _ _ => 0))) ∧ (L 6 = true → Blk W7 (w.heap.size + 1 + 1 + 1) 512 26 (fl 64 (moS n m (tmP n m d (eu n m d 9 F G (sng 0 oneP) (fun _ _ => 0)).2 F)))) ∧ VF L v [some (.agg (zb 512 (fl 64 (eu n m d 9 F G (sng 0 oneP) (fun _ _ => 0)).2))), some (.agg (fdC (n : Int) m).toArray), some (.agg (zb 512 (fl 64 F))), some (.agg (zb 512 (fl 64 (tmP n m d (eu n m d 9 F G (sng 0 oneP) (fun _ _ => 0)).2 F)))), some (.agg (fdC (n : Int) m).toArray), some (.agg (zb 512 (fl 64 (moS n m (tmP n m d (eu n m d 9 F G (sng 0 oneP) (fun _ _ => 0)).2 F))))), none, some (.int .i64 0)]) ?_ ?_ ?_
     · intro v hv0
       exact ⟨hb.drew, Kx.start _ _, ⟨_, B3.drew⟩, (fun _ => B3.drew), (fun h => by cases h), VF.start⟩
     · refine (.cons rfl ?_ (.cons rfl ?_ (.cons rfl ?_ (.cons rfl ?_ (.cons rfl ?_ (.cons rfl ?_ (.cons rfl ?_ (.cons rfl ?_ (.nil _)))))))))
       all_goals intro L v W7 hd hn ⟨hB, hX, x3, q3, n3, V⟩ K hK
       · refine wp_load_any 26 _ rfl _ rfl 512 26 _ (B6.kx hX (by simp <;> omega)) _ Try.underlying26 rfl Try.size26 ?_
         exact hK _ _ _ rfl ⟨hB, hX, x3, q3, n3, V.step 0 rfl⟩
       · refine wp_load_rowv 38 _ rfl _ rfl 38 _ (B4.kx hX (by simp <;> omega)) _ Try.underlying38 rfl 65 Try.size38 (by simp [fdC_len]) ?_
         exact hK _ _ _ rfl ⟨hB, hX, x3, q3, n3, V.step 1 rfl⟩
       · refine wp_load_any 26 _ rfl _ rfl 512 26 _ (B1.kx hX (by simp <;> omega)) _ Try.underlying26 rfl Try.size26 ?_
         exact hK _ _ _ rfl ⟨hB, hX, x3, q3, n3, V.step 2 rfl⟩
       · have e0 := V.at (zdq hd 0 rfl) rfl
         have e1 := V.at (zdq hd 1 rfl) rfl
         have e2 := V.at (zdq hd 2 rfl) rfl
         go_wp2_with (go_at_call 15; refine (HTM.out _).mono ?_; rintro e wy ⟨rfl, hy⟩)
         exact hK _ (.agg (zb 512 (fl 64 (tmP n m d (eu n m d 9 F G (sng 0 oneP) (fun _ _ => 0)).2 F)))) _ (by simp only [Act.put, pA, pB, pC, e0, e1, e2]) ⟨hB.trans (hy.mono hB.size), hX.below hy, (let ⟨g, h⟩ := x3; ⟨g, h.zw hy⟩), (fun h => (q3 h).below hy (q3 h).lt), (fun h => (n3 h).below hy (n3 h).lt), V.step 3 rfl⟩
       · refine wp_load_rowv 38 _ rfl _ rfl 38 _ (B4.kx hX (by simp <;> omega)) _ Try.underlying38 rfl 65 Try.size38 (by simp [fdC_len]) ?_
         exact hK _ _ _ rfl ⟨hB, hX, x3, q3, n3, V.step 4 rfl⟩
       · have e3 := V.at (zdq hd 3 rfl) rfl
         have e4 := V.at (zdq hd 4 rfl) rfl
         go_wp2_with (go_at_call 16; refine (HMO.out _).mono ?_; rintro e wy ⟨rfl, hy⟩)
         exact hK _ (.agg (zb 512 (fl 64 (moS n m (tmP n m d (eu n m d 9 F G (sng 0 oneP) (fun _ _ => 0)).2 F))))) _ (by simp only [Act.put, pA, pB, pC, e3, e4]) ⟨hB.trans (hy.mono hB.size), hX.below hy, (let ⟨g, h⟩ := x3; ⟨g, h.zw hy⟩), (fun h => (q3 h).below hy (q3 h).lt), (fun h => (n3 h).below hy (n3 h).lt), V.step 5 rfl⟩
       · have e5 := V.at (zdq hd 5 rfl) rfl
         obtain ⟨gz, hk⟩ := x3
         refine zsb 26 _ _ rfl _ 512 (fl 64 (moS n m (tmP n m d (eu n m d 9 F G (sng 0 oneP) (fun _ _ => 0)).2 F))) rfl e5 26 gz hk Try.size26 ?_
         exact hK _ undef _ rfl ⟨zr hB (by omega) _, hX.row (by simp) _, ⟨_, hk.row _⟩, (fun h => absurd h (by simp [setL])), (fun _ => hk.row _), V.skip 6 rfl⟩
       go_wp2_with fail
       exact hK _ (.int .i64 0) _ (by simp only [Act.put, pA, pB, pC ]) ⟨hB, hX, x3, q3, n3, V.step 7 rfl⟩
     intro L v W7 hL ⟨hB, hX, x3, q3, n3, V⟩
     have r3 := n3 (hL 6 (by decide))
     have e0 := V.at (hL 0 (by decide)) rfl
     have e1 := V.at (hL 1 (by decide)) rfl
     have e2 := V.at (hL 2 (by decide)) rfl
     have e3 := V.at (hL 3 (by decide)) rfl
     have e4 := V.at (hL 4 (by decide)) rfl
     have e5 := V.at (hL 5 (by decide)) rfl
     have e7 := V.at (hL 7 (by decide)) rfl
     clear hL x3 q3 n3 V
     replace B0 := B0.kx hX (by simp <;> omega)
     replace B1 := B1.kx hX (by simp <;> omega)
     replace B2 := B2.kx hX (by simp <;> omega)
     replace B4 := B4.kx hX (by simp <;> omega)
     replace B5 := B5.kx hX (by simp <;> omega)
     replace B6 := B6.kx hX (by simp <;> omega)
     clear hX
     simp only [Exit.then, e0, e1, e2, e3, e4, e5, e7]
     clear e0 e1 e2 e3 e4 e5 e7
     replace B3 := r3
     clear r3
     replace hb := hB
     clear hB
     clear hbase lt_B0 lt_B1 lt_B2 lt_B3 lt_B4 lt_B5 lt_B6
     go_wp2_with fail
     refine bodyPost_ret (zrt rfl _ _ _ 512 _ _ rfl B3 _ Try.underlying26 rfl Try.size26) rfl ⟨by first | (rw [HV.out]; rfl) | rw [HV.out], hb⟩
   have HV := Lib.hid (lmV_3 hc hd hn2 hfit)
   have h0 : 0 ≤ deg m := by omega
   clear hl rF rG hirr hmon b1 b2 lm hpr hd lF hn2 h0 hd1 hd4
   obtain ⟨fb1, fb2⟩ := zsd F
   obtain ⟨vb1, vb2⟩ := zsd (eu n m d 9 F G (sng 0 oneP) (fun _ _ => 0)).2
   clear hc
   go_upto_region 6 with (first | rw [← zero512] | (refine zla (.tmp 6) B1 Try.underlying26 Try.size26 ?_) | (refine zlg rfl 26 (.tmp 7) rfl _ rfl 512 26 _ (B2) _ Try.underlying26 rfl Try.size26 ?_))
   clear heqF hgd heqG
   have lt_B0 := B0.lt
   have lt_B1 := B1.lt
   have lt_B2 := B2.lt
   have lt_B3 := B3.lt
   go_upto_region 7 with (first | rw [← z64] | rw [← fdC_zero] | (refine zla (.tmp 5) B0 Try.underlying24 Try.size24 ?_) | (refine zbo rfl 38 _ rfl (fdC (n : Int) m).toArray (by rw [Array.toList_map]; exact built_fd (n : Int) m) ?_) | (refine wpList_store_rowv rfl 38 (.tmp 11) (.tmp 35) rfl _ rfl (fdC (n : Int) m).toArray rfl 38 _ ((Row.new W2 38 (fdC 0 (fun _ => 0)).toArray)) 65 Try.size38 (by simp [fdC_len]) (by simp [fdC_len]) (fdC_all _ _) ?_; try simp only [Act.put]))
   have lt_B0 := B0.lt
   have lt_B1 := B1.lt
   have lt_B2 := B2.lt
   have lt_B3 := B3.lt
   have lhb := hb.size
   obtain ⟨W3, hwo, hzQ⟩ : ∃ v : World, v = ((W2.alloc (.cells (fdC 0 (fun _ => 0)).toArray 38)).setRow (W2.heap.size) (fdC (n : Int) m).toArray) ∧ Blk v (w.heap.size) 64 24 (m) ∧ Blk v (w.heap.size + 1) 512 26 (fl 64 F) ∧ Blk v (w.heap.size + 1 + 1) 512 26 (fl 64 G) ∧ Blk v (w.heap.size + 1 + 1 + 1) 512 26 (fl 64 (fun _ _ => 0)) ∧ Row v (W2.heap.size) 38 (fdC (n : Int) m).toArray ∧ Below w.heap.size w v := ⟨_, rfl, ((B0.alloc (.cells (fdC 0 (fun _ => 0)).toArray 38)).rowOther (by omega)), ((B1.alloc (.cells (fdC 0 (fun _ => 0)).toArray 38)).rowOther (by omega)), ((B2.alloc (.cells (fdC 0 (fun _ => 0)).toArray 38)).rowOther (by omega)), ((B3.alloc (.cells (fdC 0 (fun _ => 0)).toArray 38)).rowOther (by omega)), ((Row.new W2 38 (fdC 0 (fun _ => 0)).toArray).row (fdC (n : Int) m).toArray), (zr (hb.alloc (by have := hb.size; simp; omega) (.cells (fdC 0 (fun _ => 0)).toArray 38)) (by omega) _)⟩
   rw [← hwo]
   clear hwo B0 B1 B2 B3 hb
   obtain ⟨B0, B1, B2, B3, B4, hb⟩ := hzQ
   obtain ⟨N1, hNN⟩ : ∃ n : Nat, n = W2.heap.size := ⟨_, rfl⟩
   rw [← hNN] at lt_B0 lt_B1 lt_B2 lt_B3 lhb B4 ⊢
   clear hNN
   have zN1_0 := lt_B0
   have zN1_1 := lt_B1
   have zN1_2 := lt_B2
   have zN1_3 := lt_B3
   have zN1 := lhb
   clear lt_B0 lt_B1 lt_B2 lt_B3 lhb
   try simp only [Act.put, pA, pB, pC]
   have lt_B0 := B0.lt
   have lt_B1 := B1.lt
   have lt_B2 := B2.lt
   have lt_B3 := B3.lt
   have lt_B4 := B4.lt
   go_upto_region 8 with (first | rw [← z64] | rw [← zero512] | (refine zla (.tmp 6) B1 Try.underlying26 Try.size26 ?_) | (refine zlr rfl 38 (.tmp 11) rfl _ rfl 38 (fdC (n : Int) m).toArray (B4) _ Try.underlying38 rfl 65 Try.size38 (by simp [fdC_len]) ?_) | (refine zla (.tmp 7) B2 Try.underlying26 Try.size26 ?_) | (go_at_call 13; refine (HCM.out _).mono ?_; rintro e W4 ⟨rfl, hW4⟩; replace B0 := B0.zw hW4; replace B1 := B1.zw hW4; replace B2 := B2.zw hW4; replace B3 := B3.zw hW4; replace B4 := B4.zw hW4; replace hb := (hb).trans (hW4.mono (hb).size)) | (refine wpList_store_blk rfl 26 (.tmp 12) (.tmp 41) rfl _ 512 (fl 64 (eu n m d 9 F G (sng 0 oneP) (fun _ _ => 0)).1) rfl rfl 26 _ (((Blk.new W4 512 26 (fl 64 (fun _ _ => 0))).alloc (.cells (zb 512 (fl 64 (fun _ _ => 0))) 26))) Try.size26 ?_; try simp only [Act.put]) | (refine wpList_store_blk rfl 26 (.tmp 13) (.tmp 42) rfl _ 512 (fl 64 (eu n m d 9 F G (sng 0 oneP) (fun _ _ => 0)).2) rfl rfl 26 _ (((show Blk ((W4.alloc (.cells (zb 512 (fl 64 (fun _ _ => 0))) 26)).alloc (.cells (zb 512 (fl 64 (fun _ _ => 0))) 26)) (W4.heap.size + 1) 512 26 (fl 64 (fun _ _ => 0)) by have := Blk.new (W4.alloc (.cells (zb 512 (fl 64 (fun _ _ => 0))) 26)) 512 26 (fl 64 (fun _ _ => 0)); simpa using this).rowOther (by omega))) Try.size26 ?_; try simp only [Act.put]))
   have lt_B0 := B0.lt
   have lt_B1 := B1.lt
   have lt_B2 := B2.lt
   have lt_B3 := B3.lt
   have lt_B4 := B4.lt
   have lhb := hb.size
   obtain ⟨W5, hwo, hzQ⟩ : ∃ v : World, v = ((((W4.alloc (.cells (zb 512 (fl 64 (fun _ _ => 0))) 26)).alloc (.cells (zb 512 (fl 64 (fun _ _ => 0))) 26)).setRow (W4.heap.size) (zb 512 (fl 64 (eu n m d 9 F G (sng 0 oneP) (fun _ _ => 0)).1))).setRow (W4.heap.size + 1) (zb 512 (fl 64 (eu n m d 9 F G (sng 0 oneP) (fun _ _ => 0)).2))) ∧ Blk v (w.heap.size) 64 24 (m) ∧ Blk v (w.heap.size + 1) 512 26 (fl 64 F) ∧ Blk v (w.heap.size + 1 + 1) 512 26 (fl 64 G) ∧ Blk v (w.heap.size + 1 + 1 + 1) 512 26 (fl 64 (fun _ _ => 0)) ∧ Row v (N1) 38 (fdC (n : Int) m).toArray ∧ Blk v (W4.heap.size) 512 26 (fl 64 (eu n m d 9 F G (sng 0 oneP) (fun _ _ => 0)).1) ∧ Blk v (W4.heap.size + 1) 512 26 (fl 64 (eu n m d 9 F G (sng 0 oneP) (fun _ _ => 0)).2) ∧ Below w.heap.size w v := ⟨_, rfl, ((((B0.alloc (.cells (zb 512 (fl 64 (fun _ _ => 0))) 26)).alloc (.cells (zb 512 (fl 64 (fun _ _ => 0))) 26)).rowOther (by omega)).rowOther (by omega)), ((((B1.alloc (.cells (zb 512 (fl 64 (fun _ _ => 0))) 26)).alloc (.cells (zb 512 (fl 64 (fun _ _ => 0))) 26)).rowOther (by omega)).rowOther (by omega)), ((((B2.alloc (.cells (zb 512 (fl 64 (fun _ _ => 0))) 26)).alloc (.cells (zb 512 (fl 64 (fun _ _ => 0))) 26)).rowOther (by omega)).rowOther (by omega)), ((((B3.alloc (.cells (zb 512 (fl 64 (fun _ _ => 0))) 26)).alloc (.cells (zb 512 (fl 64 (fun _ _ => 0))) 26)).rowOther (by omega)).rowOther (by omega)), ((((B4.alloc (.cells (zb 512 (fl 64 (fun _ _ => 0))) 26)).alloc (.cells (zb 512 (fl 64 (fun _ _ => 0))) 26)).rowOther (by omega)).rowOther (by omega)), ((((Blk.new W4 512 26 (fl 64 (fun _ _ => 0))).alloc (.cells (zb 512 (fl 64 (fun _ _ => 0))) 26)).row (fl 64 (eu n m d 9 F G (sng 0 oneP) (fun _ _ => 0)).1)).rowOther (by omega)), (((show Blk ((W4.alloc (.cells (zb 512 (fl 64 (fun _ _ => 0))) 26)).alloc (.cells (zb 512 (fl 64 (fun _ _ => 0))) 26)) (W4.heap.size + 1) 512 26 (fl 64 (fun _ _ => 0)) by have := Blk.new (W4.alloc (.cells (zb 512 (fl 64 (fun _ _ => 0))) 26)) 512 26 (fl 64 (fun _ _ => 0)); simpa using this).rowOther (by omega)).row (fl 64 (eu n m d 9 F G (sng 0 oneP) (fun _ _ => 0)).2)), (zr (zr ((hb.alloc (by have := hb.size; simp; omega) (.cells (zb 512 (fl 64 (fun _ _ => 0))) 26)).alloc (by have := hb.size; simp; omega) (.cells (zb 512 (fl 64 (fun _ _ => 0))) 26)) (by omega) _) (by omega) _)⟩
   rw [← hwo]
   clear hwo B0 B1 B2 B3 B4 hb
   obtain ⟨B0, B1, B2, B3, B4, B5, B6, hb⟩ := hzQ
   obtain ⟨N2, hNN⟩ : ∃ n : Nat, n = W4.heap.size := ⟨_, rfl⟩
   rw [← hNN] at lt_B0 lt_B1 lt_B2 lt_B3 lt_B4 lhb B5 B6 ⊢
   clear hNN
   have zN2_0 := lt_B0
   have zN2_1 := lt_B1
   have zN2_2 := lt_B2
   have zN2_3 := lt_B3
   have zN2_4 := lt_B4
   have zN2 := lhb
   clear lt_B0 lt_B1 lt_B2 lt_B3 lt_B4 lhb
   try simp only [Act.put, pA, pB, pC]
   refine zq Try.mixed (by kernel_rfl) (by kernel_rfl) (fun v => by (simp only [frL, Act.put, pA, pB, pC, Nat.reduceAdd, Nat.zero_add]; exact rfl))
    (fun L v W6 => Below W5.heap.size W5 W6 ∧ VF L v [some (.agg (zb 512 (fl 64 (eu n m d 9 F G (sng 0 oneP) (fun _ _ => 0)).2))), some (.int .i64 (skD (eu n m d 9 F G (sng 0 oneP) (fun _ _ => 0)).2)), some (.agg (zb 512 (fl 64 F))), some (.int .i64 (skD F)), some (.int .i64 (skD (eu n m d 9 F G (sng 0 oneP) (fun _ _ => 0)).2 + skD F)), some (.bool true)]) ?_ ?_ ?_
   · intro v hv0
     exact ⟨(Below.refl _ W5).drew, VF.start⟩
   · refine (.cons rfl ?_ (.cons rfl ?_ (.cons rfl ?_ (.cons rfl ?_ (.cons rfl ?_ (.cons rfl ?_ (.nil _)))))))
     all_goals intro L v W6 hd hn ⟨hY, V⟩ K hK
     · refine zlc (B6.zw hY) Try.underlying26 Try.size26 ?_
       exact hK _ _ _ rfl ⟨hY, V.step 0 rfl⟩
     · have e0 := V.at (zdq hd 0 rfl) rfl
       go_wp2_with (go_at_call 14; refine (skDegree_any (eu n m d 9 F G (sng 0 oneP) (fun _ _ => 0)).2 _).mono ?_; rintro e wy ⟨rfl, hy⟩)
       exact hK _ (.int .i64 (skD (eu n m d 9 F G (sng 0 oneP) (fun _ _ => 0)).2)) _ (by simp only [Act.put, pA, pB, pC, e0]) ⟨hY.trans (hy.mono hY.size), V.step 1 rfl⟩
     · refine zlc (B1.zw hY) Try.underlying26 Try.size26 ?_
       exact hK _ _ _ rfl ⟨hY, V.step 2 rfl⟩
     · have e2 := V.at (zdq hd 2 rfl) rfl
       go_wp2_with (go_at_call 14; refine (skDegree_any F _).mono ?_; rintro e wy ⟨rfl, hy⟩)
       exact hK _ (.int .i64 (skD F)) _ (by simp only [Act.put, pA, pB, pC, e2]) ⟨hY.trans (hy.mono hY.size), V.step 3 rfl⟩
     · have e1 := V.at (zdq hd 1 rfl) rfl
       have e3 := V.at (zdq hd 3 rfl) rfl
       go_wp2_with fail
       exact hK _ (.int .i64 (skD (eu n m d 9 F G (sng 0 oneP) (fun _ _ => 0)).2 + skD F)) _ (by simp only [Act.put, pA, pB, pC, e1, e3]) ⟨hY, V.step 4 rfl⟩
     have e4 := V.at (zdq hd 4 rfl) rfl
     go_wp2_with fail
     try rw [show decide (7 < skD (eu n m d 9 F G (sng 0 oneP) (fun _ _ => 0)).2 + skD F) = true by simp; omega]
     exact hK _ (.bool true) _ (by simp only [Act.put, pA, pB, pC, e4]) ⟨hY, V.step 5 rfl⟩
   intro L v W6 hL ⟨hY, V⟩
   have e0 := V.at (hL 0 (by decide)) rfl
   have e1 := V.at (hL 1 (by decide)) rfl
   have e2 := V.at (hL 2 (by decide)) rfl
   have e3 := V.at (hL 3 (by decide)) rfl
   have e4 := V.at (hL 4 (by decide)) rfl
   have e5 := V.at (hL 5 (by decide)) rfl
   clear hL V
   replace B0 := B0.zw hY
   replace B1 := B1.zw hY
   replace B2 := B2.zw hY
   replace B3 := B3.zw hY
   replace B4 := B4.zw hY
   replace B5 := B5.zw hY
   replace B6 := B6.zw hY
   replace hb := hb.trans (hY.mono hb.size)
   clear hY
   simp only [Exit.then, e0, e1, e2, e3, e4, e5]
   clear e0 e1 e2 e3 e4 e5
   go_upto_region 9 with (fail)
   have lt_B0 := B0.lt
   have lt_B1 := B1.lt
   have lt_B2 := B2.lt
   have lt_B3 := B3.lt
   have lt_B4 := B4.lt
   have lt_B5 := B5.lt
   have lt_B6 := B6.lt
   go_wp2_with (first | rw [← z64] | rw [← zero512] | (refine zsr (.tmp 8) (.tmp 49) (fl 64 (fun _ _ => 0)) B3 Try.size26 ?_; try simp only [Act.put]; go_wp2_with fail))
   obtain ⟨W7, hwo, hzQ⟩ : ∃ v : World, v = (W6.setRow (w.heap.size + 1 + 1 + 1) (zb 512 (fl 64 (fun _ _ => 0)))) ∧ Blk v (w.heap.size) 64 24 (m) ∧ Blk v (w.heap.size + 1) 512 26 (fl 64 F) ∧ Blk v (w.heap.size + 1 + 1) 512 26 (fl 64 G) ∧ Blk v (w.heap.size + 1 + 1 + 1) 512 26 (fl 64 (fun _ _ => 0)) ∧ Row v (N1) 38 (fdC (n : Int) m).toArray ∧ Blk v (N2) 512 26 (fl 64 (eu n m d 9 F G (sng 0 oneP) (fun _ _ => 0)).1) ∧ Blk v (N2 + 1) 512 26 (fl 64 (eu n m d 9 F G (sng 0 oneP) (fun _ _ => 0)).2) ∧ Below w.heap.size w v := ⟨_, rfl, (B0.rowOther (by omega)), (B1.rowOther (by omega)), (B2.rowOther (by omega)), (B3.row (fl 64 (fun _ _ => 0))), (B4.rowOther (by omega)), (B5.rowOther (by omega)), (B6.rowOther (by omega)), (zr hb (by omega) _)⟩
   rw [← hwo]
   clear hwo B0 B1 B2 B3 B4 B5 B6 hb
   obtain ⟨B0, B1, B2, B3, B4, B5, B6, hb⟩ := hzQ
   try simp only [Act.put, pA, pB, pC]
   refine bodyPost_ret (zrt rfl _ _ _ 512 _ _ rfl B3 _ Try.underlying26 rfl Try.size26) rfl ⟨by first | (rw [HV.out]; rfl) | rw [HV.out], hb⟩
 have HV := Lib.hid (lmV_1 hc)
 go_upto_region 3 with (first | (refine zla (.tmp 5) B0 Try.underlying24 Try.size24 ?_) | (refine zla (.tmp 6) B1 Try.underlying26 Try.size26 ?_) | (refine zla (.tmp 7) B2 Try.underlying26 Try.size26 ?_) | (refine zbk rfl 45 _ [F, G] rfl 26 Try.underlying45 Try.elem26 (by simp) (by simp) rfl ?_; intro wa hps hba) | (go_at_call 12; refine (checkSkews_any _ m hm [F, G] (by simp [hF, hG]) (by simp) _ _ hps).mono ?_; rintro e W2 ⟨rfl, hbb⟩; rw [hc]))
 have hBB : Below W1.heap.size W1 W2 := hba.trans (hbb.mono hba.size)
 replace B0 := B0.zw hBB
 replace B1 := B1.zw hBB
 replace B2 := B2.zw hBB
 replace B3 := B3.zw hBB
 replace hb := hb.trans (hBB.mono hb.size)
 clear hBB hba hbb hps
 clear hc
 go_wp2_with (first | rw [← z64] | rw [← zero512] | (refine zsr (.tmp 8) (.tmp 22) (fl 64 (fun _ _ => 0)) B3 Try.size26 ?_; try simp only [Act.put]; go_wp2_with fail))
 obtain ⟨W3, hwo, hzQ⟩ : ∃ v : World, v = (W2.setRow (w.heap.size + 1 + 1 + 1) (zb 512 (fl 64 (fun _ _ => 0)))) ∧ Blk v (w.heap.size) 64 24 (m) ∧ Blk v (w.heap.size + 1) 512 26 (fl 64 F) ∧ Blk v (w.heap.size + 1 + 1) 512 26 (fl 64 G) ∧ Blk v (w.heap.size + 1 + 1 + 1) 512 26 (fl 64 (fun _ _ => 0)) ∧ Below w.heap.size w v := ⟨_, rfl, (B0.rowOther (by omega)), (B1.rowOther (by omega)), (B2.rowOther (by omega)), (B3.row (fl 64 (fun _ _ => 0))), (zr hb (by omega) _)⟩
 rw [← hwo]
 clear hwo B0 B1 B2 B3 hb
 obtain ⟨B0, B1, B2, B3, hb⟩ := hzQ
 try simp only [Act.put, pA, pB, pC]
 refine bodyPost_ret (zrt rfl _ _ _ 512 _ _ rfl B3 _ Try.underlying26 rfl Try.size26) rfl ⟨by first | (rw [HV.out]; rfl) | rw [HV.out], hb⟩
end Go.Proofs.Ytoncepgcfifgbab
namespace Go.Proofs.Ytoncepgcfifgbab
open Go Go.RowKit
theorem FnExactLeftMultiple_walk (p : Int) (m : Nat → Nat) (F : Nat → Nat → Nat) (G : Nat → Nat → Nat) (hm : byte m) (hF : ∀ i, byte (F i)) (hG : ∀ i, byte (G i)) (w : World) :
 Calls Try.prog 3 #[.int .i64 p, .agg (zb 64 m), .agg (zb 512 (fl 64 F)), .agg (zb 512 (fl 64 G))] w fun e w' => e = .returned (.bool true) ∧ Below w.heap.size w w' := by
 go_enter Try.func3, Try.ntmps3
 go_upto_region 1 with (fail)
 obtain ⟨W1, hwo⟩ : ∃ v : World, v = (((w.alloc (.cells (zb 64 (m)) 22)).alloc (.cells (zb 512 (fl 64 F)) 23)).alloc (.cells (zb 512 (fl 64 G)) 23)) := ⟨_, rfl⟩
 have B0 : Blk W1 (w.heap.size) 64 22 (m) := by subst hwo; have := (((Blk.new w 64 22 (m)).alloc (.cells (zb 512 (fl 64 F)) 23)).alloc (.cells (zb 512 (fl 64 G)) 23)); simpa using this
 have B1 : Blk W1 (w.heap.size + 1) 512 23 (fl 64 F) := by subst hwo; have := ((Blk.new (w.alloc (.cells (zb 64 (m)) 22)) 512 23 (fl 64 F)).alloc (.cells (zb 512 (fl 64 G)) 23)); simpa using this
 have B2 : Blk W1 (w.heap.size + 1 + 1) 512 23 (fl 64 G) := by subst hwo; have := (Blk.new ((w.alloc (.cells (zb 64 (m)) 22)).alloc (.cells (zb 512 (fl 64 F)) 23)) 512 23 (fl 64 G)); simpa using this
 have hb : Below w.heap.size w W1 := by subst hwo; exact ((((Below.refl _ _).alloc (Nat.le_refl _) _).alloc (by simp) _).alloc (by simp; omega) _)
 rw [← hwo]
 clear hwo
 have hne1 : (((lmV p m F G).2) != ((lmV p m F G).2)) = false := by simp
 have lt_B0 : (w.heap.size) < W1.heap.size := B0.lt
 have lt_B1 : (w.heap.size + 1) < W1.heap.size := B1.lt
 have lt_B2 : (w.heap.size + 1 + 1) < W1.heap.size := B2.lt
 refine zq Try.mixed (by kernel_rfl) (by kernel_rfl) (fun v => by (simp only [frL, Act.put, pA, pB, pC, Nat.reduceAdd, Nat.zero_add]; exact rfl))
  (fun L v W2 => Below W1.heap.size W1 W2 ∧ (L 11 = true → AF (v 11) W2 W1.heap.size 512 26) ∧ (L 12 = true → PF (v 11) W2 W1.heap.size 512 26 (fl 64 ((lmV p m F G).1))) ∧ VF L v [some (.int .i64 p), some (.agg (zb 64 (m))), some (.agg (zb 64 (m))), some (.agg (zb 512 (fl 64 F))), some (.agg (zb 512 (fl 64 F))), some (.agg (zb 512 (fl 64 G))), some (.agg (zb 512 (fl 64 G))), some (.tuple #[(.agg (zb 512 (fl 64 ((lmV p m F G).1)))), (.int .i64 ((lmV p m F G).2))]), some (.tuple #[(.agg (zb 512 (fl 64 ((lmV p m F G).1)))), (.int .i64 ((lmV p m F G).2))]), some (.agg (zb 512 (fl 64 ((lmV p m F G).1)))), some (.int .i64 ((lmV p m F G).2)), none, none, some (.int .i64 ((lmV p m F G).2))]) ?_ ?_ ?_
 · intro v hv0
   exact ⟨(Below.refl _ W1).drew, (fun h => by cases h), (fun h => by cases h), VF.start⟩
 · refine (.cons rfl ?_ (.cons rfl ?_ (.cons rfl ?_ (.cons rfl ?_ (.cons rfl ?_ (.cons rfl ?_ (.cons rfl ?_ (.cons rfl ?_ (.cons rfl ?_ (.cons rfl ?_ (.cons rfl ?_ (.cons rfl ?_ (.cons rfl ?_ (.cons rfl ?_ (.nil _)))))))))))))))
   all_goals intro L v W2 hd hn ⟨hY, h11, h12, V⟩ K hK
   · go_wp2_with fail
     exact hK _ (.int .i64 p) _ (by simp only [Act.put, pA, pB, pC ]) ⟨hY, h11, h12, V.step 0 rfl⟩
   · refine zlc (B0.zw hY) Try.underlying22 Try.size22 ?_
     exact hK _ _ _ rfl ⟨hY, h11, h12, V.step 1 rfl⟩
   · have e1 := V.at (zdq hd 1 rfl) rfl
     go_wp2_with (go_at_call 5; refine (toPoly_any m hm _).mono ?_; rintro e wy ⟨rfl, hy⟩)
     exact hK _ (.agg (zb 64 (m))) _ (by simp only [Act.put, pA, pB, pC, e1]) ⟨hY.trans (hy.mono hY.size), (fun h => (h11 h).below hy), (fun h => (h12 h).below hy), V.step 2 rfl⟩
   · refine zlc (B1.zw hY) Try.underlying23 Try.size23 ?_
     exact hK _ _ _ rfl ⟨hY, h11, h12, V.step 3 rfl⟩
   · have e3 := V.at (zdq hd 3 rfl) rfl
     go_wp2_with (go_at_call 6; refine (toSkew_any F hF _).mono ?_; rintro e wy ⟨rfl, hy⟩)
     exact hK _ (.agg (zb 512 (fl 64 F))) _ (by simp only [Act.put, pA, pB, pC, e3]) ⟨hY.trans (hy.mono hY.size), (fun h => (h11 h).below hy), (fun h => (h12 h).below hy), V.step 4 rfl⟩
   · refine zlc (B2.zw hY) Try.underlying23 Try.size23 ?_
     exact hK _ _ _ rfl ⟨hY, h11, h12, V.step 5 rfl⟩
   · have e5 := V.at (zdq hd 5 rfl) rfl
     go_wp2_with (go_at_call 6; refine (toSkew_any G hG _).mono ?_; rintro e wy ⟨rfl, hy⟩)
     exact hK _ (.agg (zb 512 (fl 64 G))) _ (by simp only [Act.put, pA, pB, pC, e5]) ⟨hY.trans (hy.mono hY.size), (fun h => (h11 h).below hy), (fun h => (h12 h).below hy), V.step 6 rfl⟩
   · have e0 := V.at (zdq hd 0 rfl) rfl
     have e2 := V.at (zdq hd 2 rfl) rfl
     have e4 := V.at (zdq hd 4 rfl) rfl
     have e6 := V.at (zdq hd 6 rfl) rfl
     go_wp2_with (go_at_call 4; refine (spec_LeftMultiple_any p m F G hm hF hG _).mono ?_; rintro e wy ⟨rfl, hy⟩)
     exact hK _ (.tuple #[(.agg (zb 512 (fl 64 ((lmV p m F G).1)))), (.int .i64 ((lmV p m F G).2))]) _ (by simp only [Act.put, pA, pB, pC, e0, e2, e4, e6]) ⟨hY.trans (hy.mono hY.size), (fun h => (h11 h).below hy), (fun h => (h12 h).below hy), V.step 7 rfl⟩
   · have e7 := V.at (zdq hd 7 rfl) rfl
     go_wp2_with fail
     exact hK _ (.tuple #[(.agg (zb 512 (fl 64 ((lmV p m F G).1)))), (.int .i64 ((lmV p m F G).2))]) _ (by simp only [Act.put, pA, pB, pC, e7]) ⟨hY, h11, h12, V.step 8 rfl⟩
   · have e8 := V.at (zdq hd 8 rfl) rfl
     go_wp2_with fail
     exact hK _ (.agg (zb 512 (fl 64 ((lmV p m F G).1)))) _ (by simp only [Act.put, pA, pB, pC, e8]) ⟨hY, h11, h12, V.step 9 rfl⟩
   · have e8 := V.at (zdq hd 8 rfl) rfl
     go_wp2_with fail
     exact hK _ (.int .i64 ((lmV p m F G).2)) _ (by simp only [Act.put, pA, pB, pC, e8]) ⟨hY, h11, h12, V.step 10 rfl⟩
   · go_wp2_with fail
     rw [← zero512]
     exact hK _ (.pointer (some ⟨W2.heap.size, 0, none⟩)) _ (by simp only [Act.put, pA, pB, pC ]) ⟨hY.alloc hY.size _, (fun _ => (PF.new W2 512 26 _ hY.size).af), (fun h => absurd rfl (hn 12 _ rfl h ⟨11, .data⟩ (by simp) rfl)), V.skip 11 rfl⟩
   · have e9 := V.at (zdq hd 9 rfl) rfl
     obtain ⟨gz, b, ea, hN, hk⟩ := (h11 (zdq hd 11 rfl)).out
     refine zsb 26 _ _ rfl b 512 (fl 64 ((lmV p m F G).1)) ea e9 26 gz hk Try.size26 ?_
     exact hK _ undef _ rfl ⟨zr hY hN _, (fun h => (h11 h).row hk), (fun _ => by rw [show updV v 12 undef 11 = v 11 from rfl, ea]; exact PF.row hk hN _), V.skip 12 rfl⟩
   have e10 := V.at (zdq hd 10 rfl) rfl
   go_wp2_with fail
   exact hK _ (.int .i64 ((lmV p m F G).2)) _ (by simp only [Act.put, pA, pB, pC, e10]) ⟨hY, h11, h12, V.step 13 rfl⟩
 intro L v W2 hL ⟨hY, h11, h12, V⟩
 obtain ⟨k1_11, e11, hNk1_11, hk1_11⟩ := (h12 (hL 12 (by decide))).out
 have e0 := V.at (hL 0 (by decide)) rfl
 have e1 := V.at (hL 1 (by decide)) rfl
 have e2 := V.at (hL 2 (by decide)) rfl
 have e3 := V.at (hL 3 (by decide)) rfl
 have e4 := V.at (hL 4 (by decide)) rfl
 have e5 := V.at (hL 5 (by decide)) rfl
 have e6 := V.at (hL 6 (by decide)) rfl
 have e7 := V.at (hL 7 (by decide)) rfl
 have e8 := V.at (hL 8 (by decide)) rfl
 have e9 := V.at (hL 9 (by decide)) rfl
 have e10 := V.at (hL 10 (by decide)) rfl
 have e13 := V.at (hL 13 (by decide)) rfl
 clear hL h11 h12 V
 replace B0 := B0.zw hY
 replace B1 := B1.zw hY
 replace B2 := B2.zw hY
 replace hb := hb.trans (hY.mono hb.size)
 clear hY
 simp only [Exit.then, e11, e0, e1, e2, e3, e4, e5, e6, e7, e8, e9, e10, e13]
 clear e11 e0 e1 e2 e3 e4 e5 e6 e7 e8 e9 e10 e13
 have B3 := hk1_11
 clear hk1_11
 have zk1_11_0 : w.heap.size < k1_11 := by omega
 have zk1_11_1 : w.heap.size + 1 < k1_11 := by omega
 have zk1_11_2 : w.heap.size + 1 + 1 < k1_11 := by omega
 clear lt_B0 lt_B1 lt_B2
 go_upto_region 2 with (fail)
 have lt_B0 : (w.heap.size) < W2.heap.size := B0.lt
 have lt_B1 : (w.heap.size + 1) < W2.heap.size := B1.lt
 have lt_B2 : (w.heap.size + 1 + 1) < W2.heap.size := B2.lt
 have lt_B3 : (k1_11) < W2.heap.size := B3.lt
 refine zq Try.mixed (by kernel_rfl) (by kernel_rfl) (fun v => by (simp only [frL, Act.put, pA, pB, pC, Nat.reduceAdd, Nat.zero_add]; exact rfl))
  (fun L v W3 => Below W2.heap.size W2 W3 ∧ (L 11 = true → AF (v 11) W3 W2.heap.size 512 26) ∧ (L 12 = true → PF (v 11) W3 W2.heap.size 512 26 (fl 64 ((lmV p m F G).1))) ∧ VF L v [some (.int .i64 p), some (.agg (zb 64 (m))), some (.agg (zb 64 (m))), some (.agg (zb 512 (fl 64 F))), some (.agg (zb 512 (fl 64 F))), some (.agg (zb 512 (fl 64 G))), some (.agg (zb 512 (fl 64 G))), some (.tuple #[(.agg (zb 512 (fl 64 ((lmV p m F G).1)))), (.int .i64 ((lmV p m F G).2))]), some (.tuple #[(.agg (zb 512 (fl 64 ((lmV p m F G).1)))), (.int .i64 ((lmV p m F G).2))]), some (.agg (zb 512 (fl 64 ((lmV p m F G).1)))), some (.int .i64 ((lmV p m F G).2)), none, none, some (.int .i64 ((lmV p m F G).2))]) ?_ ?_ ?_
 · intro v hv0
   exact ⟨(Below.refl _ W2).drew, (fun h => by cases h), (fun h => by cases h), VF.start⟩
 · refine (.cons rfl ?_ (.cons rfl ?_ (.cons rfl ?_ (.cons rfl ?_ (.cons rfl ?_ (.cons rfl ?_ (.cons rfl ?_ (.cons rfl ?_ (.cons rfl ?_ (.cons rfl ?_ (.cons rfl ?_ (.cons rfl ?_ (.cons rfl ?_ (.cons rfl ?_ (.nil _)))))))))))))))
   all_goals intro L v W3 hd hn ⟨hY, h11, h12, V⟩ K hK
   · go_wp2_with fail
     exact hK _ (.int .i64 p) _ (by simp only [Act.put, pA, pB, pC ]) ⟨hY, h11, h12, V.step 0 rfl⟩
   · refine zlc (B0.zw hY) Try.underlying22 Try.size22 ?_
     exact hK _ _ _ rfl ⟨hY, h11, h12, V.step 1 rfl⟩
   · have e1 := V.at (zdq hd 1 rfl) rfl
     go_wp2_with (go_at_call 5; refine (toPoly_any m hm _).mono ?_; rintro e wy ⟨rfl, hy⟩)
     exact hK _ (.agg (zb 64 (m))) _ (by simp only [Act.put, pA, pB, pC, e1]) ⟨hY.trans (hy.mono hY.size), (fun h => (h11 h).below hy), (fun h => (h12 h).below hy), V.step 2 rfl⟩
   · refine zlc (B1.zw hY) Try.underlying23 Try.size23 ?_
     exact hK _ _ _ rfl ⟨hY, h11, h12, V.step 3 rfl⟩
   · have e3 := V.at (zdq hd 3 rfl) rfl
     go_wp2_with (go_at_call 6; refine (toSkew_any F hF _).mono ?_; rintro e wy ⟨rfl, hy⟩)
     exact hK _ (.agg (zb 512 (fl 64 F))) _ (by simp only [Act.put, pA, pB, pC, e3]) ⟨hY.trans (hy.mono hY.size), (fun h => (h11 h).below hy), (fun h => (h12 h).below hy), V.step 4 rfl⟩
   · refine zlc (B2.zw hY) Try.underlying23 Try.size23 ?_
     exact hK _ _ _ rfl ⟨hY, h11, h12, V.step 5 rfl⟩
   · have e5 := V.at (zdq hd 5 rfl) rfl
     go_wp2_with (go_at_call 6; refine (toSkew_any G hG _).mono ?_; rintro e wy ⟨rfl, hy⟩)
     exact hK _ (.agg (zb 512 (fl 64 G))) _ (by simp only [Act.put, pA, pB, pC, e5]) ⟨hY.trans (hy.mono hY.size), (fun h => (h11 h).below hy), (fun h => (h12 h).below hy), V.step 6 rfl⟩
   · have e0 := V.at (zdq hd 0 rfl) rfl
     have e2 := V.at (zdq hd 2 rfl) rfl
     have e4 := V.at (zdq hd 4 rfl) rfl
     have e6 := V.at (zdq hd 6 rfl) rfl
     go_wp2_with (go_at_call 7; refine (impl_LeftMultiple_any p m F G hm hF hG _).mono ?_; rintro e wy ⟨rfl, hy⟩)
     exact hK _ (.tuple #[(.agg (zb 512 (fl 64 ((lmV p m F G).1)))), (.int .i64 ((lmV p m F G).2))]) _ (by simp only [Act.put, pA, pB, pC, e0, e2, e4, e6]) ⟨hY.trans (hy.mono hY.size), (fun h => (h11 h).below hy), (fun h => (h12 h).below hy), V.step 7 rfl⟩
   · have e7 := V.at (zdq hd 7 rfl) rfl
     go_wp2_with fail
     exact hK _ (.tuple #[(.agg (zb 512 (fl 64 ((lmV p m F G).1)))), (.int .i64 ((lmV p m F G).2))]) _ (by simp only [Act.put, pA, pB, pC, e7]) ⟨hY, h11, h12, V.step 8 rfl⟩
   · have e8 := V.at (zdq hd 8 rfl) rfl
     go_wp2_with fail
     exact hK _ (.agg (zb 512 (fl 64 ((lmV p m F G).1)))) _ (by simp only [Act.put, pA, pB, pC, e8]) ⟨hY, h11, h12, V.step 9 rfl⟩
   · have e8 := V.at (zdq hd 8 rfl) rfl
     go_wp2_with fail
     exact hK _ (.int .i64 ((lmV p m F G).2)) _ (by simp only [Act.put, pA, pB, pC, e8]) ⟨hY, h11, h12, V.step 10 rfl⟩
   · go_wp2_with fail
     rw [← zero512]
     exact hK _ (.pointer (some ⟨W3.heap.size, 0, none⟩)) _ (by simp only [Act.put, pA, pB, pC ]) ⟨hY.alloc hY.size _, (fun _ => (PF.new W3 512 26 _ hY.size).af), (fun h => absurd rfl (hn 12 _ rfl h ⟨11, .data⟩ (by simp) rfl)), V.skip 11 rfl⟩
   · have e9 := V.at (zdq hd 9 rfl) rfl
     obtain ⟨gz, b, ea, hN, hk⟩ := (h11 (zdq hd 11 rfl)).out
     refine zsb 26 _ _ rfl b 512 (fl 64 ((lmV p m F G).1)) ea e9 26 gz hk Try.size26 ?_
     exact hK _ undef _ rfl ⟨zr hY hN _, (fun h => (h11 h).row hk), (fun _ => by rw [show updV v 12 undef 11 = v 11 from rfl, ea]; exact PF.row hk hN _), V.skip 12 rfl⟩
   have e10 := V.at (zdq hd 10 rfl) rfl
   go_wp2_with fail
   exact hK _ (.int .i64 ((lmV p m F G).2)) _ (by simp only [Act.put, pA, pB, pC, e10]) ⟨hY, h11, h12, V.step 13 rfl⟩
 intro L v W3 hL ⟨hY, h11, h12, V⟩
 obtain ⟨k2_11, e11, hNk2_11, hk2_11⟩ := (h12 (hL 12 (by decide))).out
 have e0 := V.at (hL 0 (by decide)) rfl
 have e1 := V.at (hL 1 (by decide)) rfl
 have e2 := V.at (hL 2 (by decide)) rfl
 have e3 := V.at (hL 3 (by decide)) rfl
 have e4 := V.at (hL 4 (by decide)) rfl
 have e5 := V.at (hL 5 (by decide)) rfl
 have e6 := V.at (hL 6 (by decide)) rfl
 have e7 := V.at (hL 7 (by decide)) rfl
 have e8 := V.at (hL 8 (by decide)) rfl
 have e9 := V.at (hL 9 (by decide)) rfl
 have e10 := V.at (hL 10 (by decide)) rfl
 have e13 := V.at (hL 13 (by decide)) rfl
 clear hL h11 h12 V
 replace B0 := B0.zw hY
 replace B1 := B1.zw hY
 replace B2 := B2.zw hY
 replace B3 := B3.zw hY
 replace hb := hb.trans (hY.mono hb.size)
 clear hY
 simp only [Exit.then, e11, e0, e1, e2, e3, e4, e5, e6, e7, e8, e9, e10, e13]
 clear e11 e0 e1 e2 e3 e4 e5 e6 e7 e8 e9 e10 e13
 have B4 := hk2_11
 clear hk2_11
 have zk2_11_0 : w.heap.size < k2_11 := by omega
 have zk2_11_1 : w.heap.size + 1 < k2_11 := by omega
 have zk2_11_2 : w.heap.size + 1 + 1 < k2_11 := by omega
 have zk2_11_3 : k1_11 < k2_11 := by omega
 clear lt_B0 lt_B1 lt_B2 lt_B3
 go_upto_region 3 with (fail)
 go_wp2_with (first | (refine zla (.tmp 11) B4 Try.underlying26 Try.size26 ?_) | (refine zla (.tmp 9) B3 Try.underlying26 Try.size26 ?_) | (go_at_call 8; refine (eqSkew_same _ _ (fun _ _ _ _ => rfl) _).mono ?_; rintro e W4 ⟨rfl, hW4⟩; replace B0 := B0.zw hW4; replace B1 := B1.zw hW4; replace B2 := B2.zw hW4; replace B3 := B3.zw hW4; replace B4 := B4.zw hW4; replace hb := (hb).trans (hW4.mono (hb).size)))
 go_ret
 exact ⟨rfl, hb⟩
end Go.Proofs.Ytoncepgcfifgbab
