/-
  What the rows of this claim rest on: arrays of bytes, walks of the functions, plain mathematics.
-/
import Derived.Test.YtelgefgphhebnaaZq6
import Derived.Handy
import Derived.Great.FillDense
import Derived.Test.YtelgefgphhebnaaRows
import Derived.ProofKit
import Derived.JoinedOf
section
namespace Go.Proofs.Ytelgefgphhebnaa
open Go Go.RowKit
set_option linter.unusedVariables false
set_option linter.unusedSimpArgs false
attribute [local irreducible] deg addK strP frI frN mmP pmP resP
set_option maxRecDepth 100000 in
set_option maxHeartbeats 1600000 in
theorem l03Times_ok (p : Nat) (m : Nat → Nat) (F G : Nat → Nat → Nat) (w : World) (hpr : p = 2 ∨ p = 3 ∨ p = 5 ∨ p = 7) (lm : ∀ k, k < 64 → m k < p) (d : Nat) (hd : deg m = (d : Int)) (hd1 : 1 ≤ d) (hd9 : d ≤ 9) (lF : ∀ i, i < 8 → ∀ k, k < 64 → F i k < p) (lG : ∀ i, i < 8 → rsd p m (G i)) (hs : skD F + skD G ≤ 7) :
 Calls Try.prog 109 #[.int .i64 (p : Int), .agg (zb 64 m), .agg (zb 512 (fl 64 F)), .agg (zb 512 (fl 64 G))] w fun e w' => e = .returned (.tuple #[.agg (zb 512 (fl 64 (tmP p m d F G))), .bool true]) ∧ Below w.heap.size w w' := by
 have p0 : 0 < p := by omega
 have h0 : 0 ≤ deg m := by omega
 have h9 : deg m ≤ 9 := by omega
 have p2 : 2 ≤ p := by omega
 have p7 : p ≤ 7 := by omega
 obtain ⟨fb1, fb2⟩ := zsd F
 obtain ⟨gb1, gb2⟩ := zsd G
 obtain ⟨A, hA⟩ : ∃ A : Nat, skD F = (A : Int) - 1 := ⟨(skD F + 1).toNat, by omega⟩
 obtain ⟨B, hB⟩ : ∃ B : Nat, skD G = (B : Int) - 1 := ⟨(skD G + 1).toNat, by omega⟩
 have HA := Lib.hid hA
 have HB := Lib.hid hB
 have hA8 : A ≤ 8 := by omega
 have hB8 : B ≤ 8 := by omega
 have hAB : A + B ≤ 9 := by omega
 have HP := Lib.hid (tmP_at (p := p) (m := m) (d := d) hA hB)
 have HX := Lib.hid (fun i (hi : i < 8) j => (frN_ok hpr lm h0 h9 (lG i hi) j).1)
 have HFR := Lib.hid (fun i (hi : i < 8) j (hj : j < 8) W => l03Frobenius_any p m (G j) i W hpr lm d hd hd1 hd9 (by omega) (lG j hj))
 have HMM := Lib.hid (fun i (hi : i < 8) j (hj : j < 8) W => l01MulMod_any p (F i) (frN p m (G j) (i % d)) m W hpr (lF i hi) (HX.out j hj (i % d)).1 lm h0)
 have HSU := Lib.hid (fun (f g : Nat → Nat) (hf : ∀ k, f k < p) (hg : ∀ k, k < 64 → g k < p) W => l01Add_any p f g 1 W p2 p7 (by omega) (by omega) (fun k _ => hf k) hg)
 have HJL := Lib.hid (fun i j r k => tmJ_lt (p := p) (m := m) (d := d) (F := F) (G := G) (i := i) p0 (tmR_lt (m := m) (d := d) (F := F) (G := G) (n := B) p0 i) j r k)
 have HML := Lib.hid (fun i j k (hk : k < 64) => mmP_lt (p := p) (a := F i) (b := frN p m (G j) (i % d)) (m := m) p0 k (by omega))
 have HZ := Lib.hid (tmR_z p m d F G B)
 have HS := Lib.hid (tmR_s p m d F G B)
 have HJZ := Lib.hid (tmJ_z p m d F G)
 have HJS := Lib.hid (tmJ_s p m d F G)
 clear hA hB lF lG
 have hn3 : ¬ skD F + skD G > 7 := by omega
 go_enter Try.func109, Try.ntmps109
 go_upto_region 1 with (fail)
 rw [← zero512]
 obtain ⟨W1, hwo⟩ : ∃ v : World, v = ((((w.alloc (.cells (zb 64 (m)) 28)).alloc (.cells (zb 512 (fl 64 F)) 46)).alloc (.cells (zb 512 (fl 64 G)) 46)).alloc (.cells (zb 512 (fl 64 (fun _ _ => 0))) 46)) := ⟨_, rfl⟩
 have B0 : Blk W1 (w.heap.size) 64 28 (m) := by subst hwo; have := ((((Blk.new w 64 28 (m)).alloc (.cells (zb 512 (fl 64 F)) 46)).alloc (.cells (zb 512 (fl 64 G)) 46)).alloc (.cells (zb 512 (fl 64 (fun _ _ => 0))) 46)); simpa using this
 have B1 : Blk W1 (w.heap.size + 1) 512 46 (fl 64 F) := by subst hwo; have := (((Blk.new (w.alloc (.cells (zb 64 (m)) 28)) 512 46 (fl 64 F)).alloc (.cells (zb 512 (fl 64 G)) 46)).alloc (.cells (zb 512 (fl 64 (fun _ _ => 0))) 46)); simpa using this
 have B2 : Blk W1 (w.heap.size + 1 + 1) 512 46 (fl 64 G) := by subst hwo; have := ((Blk.new ((w.alloc (.cells (zb 64 (m)) 28)).alloc (.cells (zb 512 (fl 64 F)) 46)) 512 46 (fl 64 G)).alloc (.cells (zb 512 (fl 64 (fun _ _ => 0))) 46)); simpa using this
 have B3 : Blk W1 (w.heap.size + 1 + 1 + 1) 512 46 (fl 64 (fun _ _ => 0)) := by subst hwo; have := (Blk.new (((w.alloc (.cells (zb 64 (m)) 28)).alloc (.cells (zb 512 (fl 64 F)) 46)).alloc (.cells (zb 512 (fl 64 G)) 46)) 512 46 (fl 64 (fun _ _ => 0))); simpa using this
 have hb : Below w.heap.size w W1 := by subst hwo; exact (((((Below.refl _ _).alloc (Nat.le_refl _) _).alloc (by simp) _).alloc (by simp; omega) _).alloc (by simp; omega) _)
 rw [← hwo]
 clear hwo
 by_cases hz : skD F < 0 ∨ skD G < 0
 · have HPZ := Lib.hid (tmP_zero (p := p) (m := m) (d := d) hz)
   by_cases hzF : skD F < 0
   · skip
     have lt_B0 : (w.heap.size) < W1.heap.size := B0.lt
     have lt_B1 : (w.heap.size + 1) < W1.heap.size := B1.lt
     have lt_B2 : (w.heap.size + 1 + 1) < W1.heap.size := B2.lt
     have lt_B3 : (w.heap.size + 1 + 1 + 1) < W1.heap.size := B3.lt
     refine zq Try.mixed (by kernel_rfl) (by kernel_rfl) (fun v => by (simp only [frL, Act.put, pA, pB, pC, Nat.reduceAdd, Nat.zero_add]; exact rfl))
      (fun L v W2 => Below W1.heap.size W1 W2 ∧ (L 5 = true → AF (v 5) W2 W1.heap.size 512 46) ∧ (L 8 = true → PF (v 5) W2 W1.heap.size 512 46 (fl 64 (fun _ _ => 0))) ∧ VF L v [some (.agg (zb 512 (fl 64 F))), some (.int .i64 (skD F)), some (.agg (zb 512 (fl 64 G))), some (.int .i64 (skD G)), some (.agg (zb 512 (fl 64 (fun _ _ => 0)))), none, some (.int .i64 (skD F)), some (.int .i64 (skD G)), none]) ?_ ?_ ?_
     · intro v hv0
       exact ⟨(Below.refl _ W1).drew, (fun h => by cases h), (fun h => by cases h), VF.start⟩
     · refine (.cons rfl ?_ (.cons rfl ?_ (.cons rfl ?_ (.cons rfl ?_ (.cons rfl ?_ (.cons rfl ?_ (.cons rfl ?_ (.cons rfl ?_ (.cons rfl ?_ (.nil _))))))))))
       all_goals intro L v W2 hd hn ⟨hY, h5, h8, V⟩ K hK
       · refine zlc (B1.zw hY) Try.underlying46 Try.size46 ?_
         exact hK _ _ _ rfl ⟨hY, h5, h8, V.step 0 rfl⟩
       · have e0 := V.at (zdq hd 0 rfl) rfl
         go_wp2_with (go_at_call 143; refine (l03Deg_any F _).mono ?_; rintro e wy ⟨rfl, hy⟩)
         exact hK _ (.int .i64 (skD F)) _ (by simp only [Act.put, pA, pB, pC, e0]) ⟨hY.trans (hy.mono hY.size), (fun h => (h5 h).below hy), (fun h => (h8 h).below hy), V.step 1 rfl⟩
       · refine zlc (B2.zw hY) Try.underlying46 Try.size46 ?_
         exact hK _ _ _ rfl ⟨hY, h5, h8, V.step 2 rfl⟩
       · have e2 := V.at (zdq hd 2 rfl) rfl
         go_wp2_with (go_at_call 143; refine (l03Deg_any G _).mono ?_; rintro e wy ⟨rfl, hy⟩)
         exact hK _ (.int .i64 (skD G)) _ (by simp only [Act.put, pA, pB, pC, e2]) ⟨hY.trans (hy.mono hY.size), (fun h => (h5 h).below hy), (fun h => (h8 h).below hy), V.step 3 rfl⟩
       · go_wp2_with fail
         rw [← zero512]
         exact hK _ (.agg (zb 512 (fl 64 (fun _ _ => 0)))) _ (by simp only [Act.put, pA, pB, pC ]) ⟨hY, h5, h8, V.step 4 rfl⟩
       · go_wp2_with fail
         rw [← zero512]
         exact hK _ (.pointer (some ⟨W2.heap.size, 0, none⟩)) _ (by simp only [Act.put, pA, pB, pC ]) ⟨hY.alloc hY.size _, (fun _ => (PF.new W2 512 46 _ hY.size).af), (fun h => absurd rfl (hn 8 _ rfl h ⟨5, .data⟩ (by simp) rfl)), V.skip 5 rfl⟩
       · have e1 := V.at (zdq hd 1 rfl) rfl
         go_wp2_with fail
         exact hK _ (.int .i64 (skD F)) _ (by simp only [Act.put, pA, pB, pC, e1]) ⟨hY, h5, h8, V.step 6 rfl⟩
       · have e3 := V.at (zdq hd 3 rfl) rfl
         go_wp2_with fail
         exact hK _ (.int .i64 (skD G)) _ (by simp only [Act.put, pA, pB, pC, e3]) ⟨hY, h5, h8, V.step 7 rfl⟩
       · have e4 := V.at (zdq hd 4 rfl) rfl
         obtain ⟨gz, b, ea, hN, hk⟩ := (h5 (zdq hd 5 rfl)).out
         refine zsb 46 _ _ rfl b 512 (fl 64 (fun _ _ => 0)) ea e4 46 gz hk Try.size46 ?_
         exact hK _ undef _ rfl ⟨zr hY hN _, (fun h => (h5 h).row hk), (fun _ => by rw [show updV v 8 undef 5 = v 5 from rfl, ea]; exact PF.row hk hN _), V.skip 8 rfl⟩
     · intro L v W2 hL ⟨hY, h5, h8, V⟩
       obtain ⟨k1_5, e5, hNk1_5, hk1_5⟩ := (h8 (hL 8 (by decide))).out
       have e0 := V.at (hL 0 (by decide)) rfl
       have e1 := V.at (hL 1 (by decide)) rfl
       have e2 := V.at (hL 2 (by decide)) rfl
       have e3 := V.at (hL 3 (by decide)) rfl
       have e4 := V.at (hL 4 (by decide)) rfl
       have e6 := V.at (hL 6 (by decide)) rfl
       have e7 := V.at (hL 7 (by decide)) rfl
       clear hL h5 h8 V
       replace B0 := B0.zw hY
       replace B1 := B1.zw hY
       replace B2 := B2.zw hY
       replace B3 := B3.zw hY
       replace hb := hb.trans (hY.mono hb.size)
       clear hY
       simp only [Exit.then, e5, e0, e1, e2, e3, e4, e6, e7]
       clear e5 e0 e1 e2 e3 e4 e6 e7
       have B4 := hk1_5
       clear hk1_5
       have zk1_5_0 : w.heap.size < k1_5 := by omega
       have zk1_5_1 : w.heap.size + 1 < k1_5 := by omega
       have zk1_5_2 : w.heap.size + 1 + 1 < k1_5 := by omega
       have zk1_5_3 : w.heap.size + 1 + 1 + 1 < k1_5 := by omega
       clear lt_B0 lt_B1 lt_B2 lt_B3
       go_upto_region 3 with (fail)
       have lt_B0 := B0.lt
       have lt_B1 := B1.lt
       have lt_B2 := B2.lt
       have lt_B3 := B3.lt
       have lt_B4 := B4.lt
       go_wp2_with (first | rw [← z64] | rw [← zero512] | (refine zla (.tmp 12) B4 Try.underlying46 Try.size46 ?_) | (refine zsr (.tmp 8) (.tmp 27) (fl 64 (fun _ _ => 0)) B3 Try.size46 ?_; try simp only [Act.put]; go_wp2_with fail))
       obtain ⟨W3, hwo, hzQ⟩ : ∃ v : World, v = (W2.setRow (w.heap.size + 1 + 1 + 1) (zb 512 (fl 64 (fun _ _ => 0)))) ∧ Blk v (w.heap.size) 64 28 (m) ∧ Blk v (w.heap.size + 1) 512 46 (fl 64 F) ∧ Blk v (w.heap.size + 1 + 1) 512 46 (fl 64 G) ∧ Blk v (w.heap.size + 1 + 1 + 1) 512 46 (fl 64 (fun _ _ => 0)) ∧ Blk v (k1_5) 512 46 (fl 64 (fun _ _ => 0)) ∧ Below w.heap.size w v := ⟨_, rfl, (B0.rowOther (by omega)), (B1.rowOther (by omega)), (B2.rowOther (by omega)), (B3.row (fl 64 (fun _ _ => 0))), (B4.rowOther (by omega)), (zr hb (by omega) _)⟩
       rw [← hwo]
       clear hwo B0 B1 B2 B3 B4 hb
       obtain ⟨B0, B1, B2, B3, B4, hb⟩ := hzQ
       try simp only [Act.put, pA, pB, pC]
       refine bodyPost_ret (zrt rfl _ _ _ 512 _ _ rfl B3 _ Try.underlying46 rfl Try.size46) rfl ⟨by first | (rw [HPZ.out]; done) | (rw [HPZ.out]; rfl), hb⟩
   · have hzG : skD G < 0 := by omega
     have lt_B0 : (w.heap.size) < W1.heap.size := B0.lt
     have lt_B1 : (w.heap.size + 1) < W1.heap.size := B1.lt
     have lt_B2 : (w.heap.size + 1 + 1) < W1.heap.size := B2.lt
     have lt_B3 : (w.heap.size + 1 + 1 + 1) < W1.heap.size := B3.lt
     refine zq Try.mixed (by kernel_rfl) (by kernel_rfl) (fun v => by (simp only [frL, Act.put, pA, pB, pC, Nat.reduceAdd, Nat.zero_add]; exact rfl))
      (fun L v W2 => Below W1.heap.size W1 W2 ∧ (L 5 = true → AF (v 5) W2 W1.heap.size 512 46) ∧ (L 8 = true → PF (v 5) W2 W1.heap.size 512 46 (fl 64 (fun _ _ => 0))) ∧ VF L v [some (.agg (zb 512 (fl 64 F))), some (.int .i64 (skD F)), some (.agg (zb 512 (fl 64 G))), some (.int .i64 (skD G)), some (.agg (zb 512 (fl 64 (fun _ _ => 0)))), none, some (.int .i64 (skD F)), some (.int .i64 (skD G)), none]) ?_ ?_ ?_
     · intro v hv0
       exact ⟨(Below.refl _ W1).drew, (fun h => by cases h), (fun h => by cases h), VF.start⟩
     · refine (.cons rfl ?_ (.cons rfl ?_ (.cons rfl ?_ (.cons rfl ?_ (.cons rfl ?_ (.cons rfl ?_ (.cons rfl ?_ (.cons rfl ?_ (.cons rfl ?_ (.nil _))))))))))
       all_goals intro L v W2 hd hn ⟨hY, h5, h8, V⟩ K hK
       · refine zlc (B1.zw hY) Try.underlying46 Try.size46 ?_
         exact hK _ _ _ rfl ⟨hY, h5, h8, V.step 0 rfl⟩
       · have e0 := V.at (zdq hd 0 rfl) rfl
         go_wp2_with (go_at_call 143; refine (l03Deg_any F _).mono ?_; rintro e wy ⟨rfl, hy⟩)
         exact hK _ (.int .i64 (skD F)) _ (by simp only [Act.put, pA, pB, pC, e0]) ⟨hY.trans (hy.mono hY.size), (fun h => (h5 h).below hy), (fun h => (h8 h).below hy), V.step 1 rfl⟩
       · refine zlc (B2.zw hY) Try.underlying46 Try.size46 ?_
         exact hK _ _ _ rfl ⟨hY, h5, h8, V.step 2 rfl⟩
       · have e2 := V.at (zdq hd 2 rfl) rfl
         go_wp2_with (go_at_call 143; refine (l03Deg_any G _).mono ?_; rintro e wy ⟨rfl, hy⟩)
         exact hK _ (.int .i64 (skD G)) _ (by simp only [Act.put, pA, pB, pC, e2]) ⟨hY.trans (hy.mono hY.size), (fun h => (h5 h).below hy), (fun h => (h8 h).below hy), V.step 3 rfl⟩
       · go_wp2_with fail
         rw [← zero512]
         exact hK _ (.agg (zb 512 (fl 64 (fun _ _ => 0)))) _ (by simp only [Act.put, pA, pB, pC ]) ⟨hY, h5, h8, V.step 4 rfl⟩
       · go_wp2_with fail
         rw [← zero512]
         exact hK _ (.pointer (some ⟨W2.heap.size, 0, none⟩)) _ (by simp only [Act.put, pA, pB, pC ]) ⟨hY.alloc hY.size _, (fun _ => (PF.new W2 512 46 _ hY.size).af), (fun h => absurd rfl (hn 8 _ rfl h ⟨5, .data⟩ (by simp) rfl)), V.skip 5 rfl⟩
       · have e1 := V.at (zdq hd 1 rfl) rfl
         go_wp2_with fail
         exact hK _ (.int .i64 (skD F)) _ (by simp only [Act.put, pA, pB, pC, e1]) ⟨hY, h5, h8, V.step 6 rfl⟩
       · have e3 := V.at (zdq hd 3 rfl) rfl
         go_wp2_with fail
         exact hK _ (.int .i64 (skD G)) _ (by simp only [Act.put, pA, pB, pC, e3]) ⟨hY, h5, h8, V.step 7 rfl⟩
       · have e4 := V.at (zdq hd 4 rfl) rfl
         obtain ⟨gz, b, ea, hN, hk⟩ := (h5 (zdq hd 5 rfl)).out
         refine zsb 46 _ _ rfl b 512 (fl 64 (fun _ _ => 0)) ea e4 46 gz hk Try.size46 ?_
         exact hK _ undef _ rfl ⟨zr hY hN _, (fun h => (h5 h).row hk), (fun _ => by rw [show updV v 8 undef 5 = v 5 from rfl, ea]; exact PF.row hk hN _), V.skip 8 rfl⟩
     · intro L v W2 hL ⟨hY, h5, h8, V⟩
       obtain ⟨k1_5, e5, hNk1_5, hk1_5⟩ := (h8 (hL 8 (by decide))).out
       have e0 := V.at (hL 0 (by decide)) rfl
       have e1 := V.at (hL 1 (by decide)) rfl
       have e2 := V.at (hL 2 (by decide)) rfl
       have e3 := V.at (hL 3 (by decide)) rfl
       have e4 := V.at (hL 4 (by decide)) rfl
       have e6 := V.at (hL 6 (by decide)) rfl
       have e7 := V.at (hL 7 (by decide)) rfl
       clear hL h5 h8 V
       replace B0 := B0.zw hY
       replace B1 := B1.zw hY
       replace B2 := B2.zw hY
       replace B3 := B3.zw hY
       replace hb := hb.trans (hY.mono hb.size)
       clear hY
       simp only [Exit.then, e5, e0, e1, e2, e3, e4, e6, e7]
       clear e5 e0 e1 e2 e3 e4 e6 e7
       have B4 := hk1_5
       clear hk1_5
       have zk1_5_0 : w.heap.size < k1_5 := by omega
       have zk1_5_1 : w.heap.size + 1 < k1_5 := by omega
       have zk1_5_2 : w.heap.size + 1 + 1 < k1_5 := by omega
       have zk1_5_3 : w.heap.size + 1 + 1 + 1 < k1_5 := by omega
       clear lt_B0 lt_B1 lt_B2 lt_B3
       go_upto_region 3 with (fail)
       have lt_B0 := B0.lt
       have lt_B1 := B1.lt
       have lt_B2 := B2.lt
       have lt_B3 := B3.lt
       have lt_B4 := B4.lt
       go_wp2_with (first | rw [← z64] | rw [← zero512] | (refine zla (.tmp 12) B4 Try.underlying46 Try.size46 ?_) | (refine zsr (.tmp 8) (.tmp 27) (fl 64 (fun _ _ => 0)) B3 Try.size46 ?_; try simp only [Act.put]; go_wp2_with fail))
       obtain ⟨W3, hwo, hzQ⟩ : ∃ v : World, v = (W2.setRow (w.heap.size + 1 + 1 + 1) (zb 512 (fl 64 (fun _ _ => 0)))) ∧ Blk v (w.heap.size) 64 28 (m) ∧ Blk v (w.heap.size + 1) 512 46 (fl 64 F) ∧ Blk v (w.heap.size + 1 + 1) 512 46 (fl 64 G) ∧ Blk v (w.heap.size + 1 + 1 + 1) 512 46 (fl 64 (fun _ _ => 0)) ∧ Blk v (k1_5) 512 46 (fl 64 (fun _ _ => 0)) ∧ Below w.heap.size w v := ⟨_, rfl, (B0.rowOther (by omega)), (B1.rowOther (by omega)), (B2.rowOther (by omega)), (B3.row (fl 64 (fun _ _ => 0))), (B4.rowOther (by omega)), (zr hb (by omega) _)⟩
       rw [← hwo]
       clear hwo B0 B1 B2 B3 B4 hb
       obtain ⟨B0, B1, B2, B3, B4, hb⟩ := hzQ
       try simp only [Act.put, pA, pB, pC]
       refine bodyPost_ret (zrt rfl _ _ _ 512 _ _ rfl B3 _ Try.underlying46 rfl Try.size46) rfl ⟨by first | (rw [HPZ.out]; done) | (rw [HPZ.out]; rfl), hb⟩
 · have hn1 : ¬ skD F < 0 := by omega
   have hn2 : ¬ skD G < 0 := by omega
   have lt_B0 : (w.heap.size) < W1.heap.size := B0.lt
   have lt_B1 : (w.heap.size + 1) < W1.heap.size := B1.lt
   have lt_B2 : (w.heap.size + 1 + 1) < W1.heap.size := B2.lt
   have lt_B3 : (w.heap.size + 1 + 1 + 1) < W1.heap.size := B3.lt
   refine zq Try.mixed (by kernel_rfl) (by kernel_rfl) (fun v => by (simp only [frL, Act.put, pA, pB, pC, Nat.reduceAdd, Nat.zero_add]; exact rfl))
    (fun L v W2 => Below W1.heap.size W1 W2 ∧ (L 5 = true → AF (v 5) W2 W1.heap.size 512 46) ∧ (L 8 = true → PF (v 5) W2 W1.heap.size 512 46 (fl 64 (fun _ _ => 0))) ∧ VF L v [some (.agg (zb 512 (fl 64 F))), some (.int .i64 (skD F)), some (.agg (zb 512 (fl 64 G))), some (.int .i64 (skD G)), some (.agg (zb 512 (fl 64 (fun _ _ => 0)))), none, some (.int .i64 (skD F)), some (.int .i64 (skD G)), none]) ?_ ?_ ?_
   · intro v hv0
     exact ⟨(Below.refl _ W1).drew, (fun h => by cases h), (fun h => by cases h), VF.start⟩
   · refine (.cons rfl ?_ (.cons rfl ?_ (.cons rfl ?_ (.cons rfl ?_ (.cons rfl ?_ (.cons rfl ?_ (.cons rfl ?_ (.cons rfl ?_ (.cons rfl ?_ (.nil _))))))))))
     all_goals intro L v W2 hd hn ⟨hY, h5, h8, V⟩ K hK
     · refine zlc (B1.zw hY) Try.underlying46 Try.size46 ?_
       exact hK _ _ _ rfl ⟨hY, h5, h8, V.step 0 rfl⟩
     · have e0 := V.at (zdq hd 0 rfl) rfl
       go_wp2_with (go_at_call 143; refine (l03Deg_any F _).mono ?_; rintro e wy ⟨rfl, hy⟩)
       exact hK _ (.int .i64 (skD F)) _ (by simp only [Act.put, pA, pB, pC, e0]) ⟨hY.trans (hy.mono hY.size), (fun h => (h5 h).below hy), (fun h => (h8 h).below hy), V.step 1 rfl⟩
     · refine zlc (B2.zw hY) Try.underlying46 Try.size46 ?_
       exact hK _ _ _ rfl ⟨hY, h5, h8, V.step 2 rfl⟩
     · have e2 := V.at (zdq hd 2 rfl) rfl
       go_wp2_with (go_at_call 143; refine (l03Deg_any G _).mono ?_; rintro e wy ⟨rfl, hy⟩)
       exact hK _ (.int .i64 (skD G)) _ (by simp only [Act.put, pA, pB, pC, e2]) ⟨hY.trans (hy.mono hY.size), (fun h => (h5 h).below hy), (fun h => (h8 h).below hy), V.step 3 rfl⟩
     · go_wp2_with fail
       rw [← zero512]
       exact hK _ (.agg (zb 512 (fl 64 (fun _ _ => 0)))) _ (by simp only [Act.put, pA, pB, pC ]) ⟨hY, h5, h8, V.step 4 rfl⟩
     · go_wp2_with fail
       rw [← zero512]
       exact hK _ (.pointer (some ⟨W2.heap.size, 0, none⟩)) _ (by simp only [Act.put, pA, pB, pC ]) ⟨hY.alloc hY.size _, (fun _ => (PF.new W2 512 46 _ hY.size).af), (fun h => absurd rfl (hn 8 _ rfl h ⟨5, .data⟩ (by simp) rfl)), V.skip 5 rfl⟩
     · have e1 := V.at (zdq hd 1 rfl) rfl
       go_wp2_with fail
       exact hK _ (.int .i64 (skD F)) _ (by simp only [Act.put, pA, pB, pC, e1]) ⟨hY, h5, h8, V.step 6 rfl⟩
     · have e3 := V.at (zdq hd 3 rfl) rfl
       go_wp2_with fail
       exact hK _ (.int .i64 (skD G)) _ (by simp only [Act.put, pA, pB, pC, e3]) ⟨hY, h5, h8, V.step 7 rfl⟩
     · have e4 := V.at (zdq hd 4 rfl) rfl
       obtain ⟨gz, b, ea, hN, hk⟩ := (h5 (zdq hd 5 rfl)).out
       refine zsb 46 _ _ rfl b 512 (fl 64 (fun _ _ => 0)) ea e4 46 gz hk Try.size46 ?_
       exact hK _ undef _ rfl ⟨zr hY hN _, (fun h => (h5 h).row hk), (fun _ => by rw [show updV v 8 undef 5 = v 5 from rfl, ea]; exact PF.row hk hN _), V.skip 8 rfl⟩
   · intro L v W2 hL ⟨hY, h5, h8, V⟩
     obtain ⟨k1_5, e5, hNk1_5, hk1_5⟩ := (h8 (hL 8 (by decide))).out
     have e0 := V.at (hL 0 (by decide)) rfl
     have e1 := V.at (hL 1 (by decide)) rfl
     have e2 := V.at (hL 2 (by decide)) rfl
     have e3 := V.at (hL 3 (by decide)) rfl
     have e4 := V.at (hL 4 (by decide)) rfl
     have e6 := V.at (hL 6 (by decide)) rfl
     have e7 := V.at (hL 7 (by decide)) rfl
     clear hL h5 h8 V
     replace B0 := B0.zw hY
     replace B1 := B1.zw hY
     replace B2 := B2.zw hY
     replace B3 := B3.zw hY
     replace hb := hb.trans (hY.mono hb.size)
     clear hY
     simp only [Exit.then, e5, e0, e1, e2, e3, e4, e6, e7]
     clear e5 e0 e1 e2 e3 e4 e6 e7
     have B4 := hk1_5
     clear hk1_5
     have zk1_5_0 : w.heap.size < k1_5 := by omega
     have zk1_5_1 : w.heap.size + 1 < k1_5 := by omega
     have zk1_5_2 : w.heap.size + 1 + 1 < k1_5 := by omega
     have zk1_5_3 : w.heap.size + 1 + 1 + 1 < k1_5 := by omega
     clear lt_B0 lt_B1 lt_B2 lt_B3
     go_upto_region 6 with (fail)
     clear hz
     go_wp2_with fail
     go_loopw [13] (fun c wr => ∃ (i : Nat) (O : Nat → Nat → Nat), c = .int .i64 (i : Int) ∧ i ≤ A ∧ Hid (O = tmR p m d F G B i) ∧ Below w.heap.size w wr ∧ Blk wr (w.heap.size + 1) 512 46 (fl 64 F) ∧ Blk wr (w.heap.size) 64 28 m ∧ Blk wr (w.heap.size + 1 + 1) 512 46 (fl 64 G) ∧ Blk wr (w.heap.size + 1 + 1 + 1) 512 46 (fl 64 (fun _ _ => 0)) ∧ Blk wr (k1_5) 512 46 (fl 64 O)) (fun c _ => A - (intOf c).toNat)
     case atStart => exact ⟨0, _, rfl, Nat.zero_le _, Lib.hid HZ.out.symm, hb, B1, B0, B2, B3, B4⟩
     case round =>
      clear hb B1 B0 B2 B3 B4
      obtain ⟨i, O, rfl, hiA, hO, hb, B1, B0, B2, B3, B4⟩ := hrel
      by_cases hi : i < A
      · have hiI : (i : Int) ≤ skD F := by have := HA.out; omega
        have hi8 : i < 8 := by omega
        go_wp2_with fail
        go_loopw [14] (fun c wr => ∃ (j : Nat) (O : Nat → Nat → Nat), c = .int .i64 (j : Int) ∧ j ≤ B ∧ Hid (O = tmJ p m d F G i (tmR p m d F G B i) j) ∧ Below w.heap.size w wr ∧ Blk wr (w.heap.size + 1) 512 46 (fl 64 F) ∧ Blk wr (w.heap.size) 64 28 m ∧ Blk wr (w.heap.size + 1 + 1) 512 46 (fl 64 G) ∧ Blk wr (w.heap.size + 1 + 1 + 1) 512 46 (fl 64 (fun _ _ => 0)) ∧ Blk wr (k1_5) 512 46 (fl 64 O)) (fun c _ => B - (intOf c).toNat)
        case atStart => exact ⟨0, O, rfl, Nat.zero_le _, Lib.hid (by rw [HJZ.out, hO.out]), hb, B1, B0, B2, B3, B4⟩
        case round =>
         clear hb B1 B0 B2 B3 B4 hO
         obtain ⟨j, O, rfl, hjB, hO, hb, B1, B0, B2, B3, B4⟩ := hrel
         by_cases hj : j < B
         · have hjI : (j : Int) ≤ skD G := by have := HB.out; omega
           have hj8 : j < 8 := by omega
           obtain ⟨Q, hQ⟩ : ∃ Q, Q = i + j := ⟨_, rfl⟩
           have hQI : (i : Int) + (j : Int) = (Q : Int) := by omega
           have hQ8 : Q < 8 := by omega
           have HQ := Lib.hid hQ
           clear hQ
           have HOL := Lib.hid (show ∀ k, O Q k < p from fun k => by rw [hO.out]; exact HJL.out i j Q k)
           have HK1 := Lib.hid (HFR.out i hi8 j hj8)
           have HK2 := Lib.hid (HMM.out i hi8 j hj8)
           have HK3 := Lib.hid (HSU.out (O Q) (mmP p (F i) (frN p m (G j) (i % d)) m) HOL.out (HML.out i j))
           go_upto_region 12 with (fail)
           have lt_B0 : (w.heap.size) < wr.heap.size := B0.lt
           have lt_B1 : (w.heap.size + 1) < wr.heap.size := B1.lt
           have lt_B2 : (w.heap.size + 1 + 1) < wr.heap.size := B2.lt
           have lt_B3 : (w.heap.size + 1 + 1 + 1) < wr.heap.size := B3.lt
           have lt_B4 : (k1_5) < wr.heap.size := B4.lt
           refine zq Try.mixed (by kernel_rfl) (by kernel_rfl) (fun v => by (simp only [frL, Act.put, pA, pB, pC, Nat.reduceAdd, Nat.zero_add]; exact rfl))
            (fun L v W3 => Below wr.heap.size wr W3 ∧ (L 13 = true → AF (v 13) W3 wr.heap.size 64 28) ∧ (L 14 = true → PF (v 13) W3 wr.heap.size 64 28 (mmP p (F i) (frN p m (G j) (i % d)) m)) ∧ VF L v [some (.int .i64 (p : Int)), some (.int .i64 (i : Int)), some (.pointer (some ⟨w.heap.size + 1, i * 64, none⟩)), some (.agg (zb 64 (F i))), some (.int .i64 (p : Int)), some (.int .i64 (j : Int)), some (.pointer (some ⟨w.heap.size + 1 + 1, j * 64, none⟩)), some (.agg (zb 64 (G j))), some (.int .i64 (i : Int)), some (.agg (zb 64 (m))), some (.agg (zb 64 (frN p m (G j) (i % d)))), some (.agg (zb 64 (m))), some (.agg (zb 64 (mmP p (F i) (frN p m (G j) (i % d)) m))), none, none]) ?_ ?_ ?_
           · intro v hv0
             exact ⟨(Below.refl _ wr).drew, (fun h => by cases h), (fun h => by cases h), VF.start⟩
           · refine (.cons rfl ?_ (.cons rfl ?_ (.cons rfl ?_ (.cons rfl ?_ (.cons rfl ?_ (.cons rfl ?_ (.cons rfl ?_ (.cons rfl ?_ (.cons rfl ?_ (.cons rfl ?_ (.cons rfl ?_ (.cons rfl ?_ (.cons rfl ?_ (.cons rfl ?_ (.cons rfl ?_ (.nil _))))))))))))))))
             all_goals intro L v W3 hd hn ⟨hY, h13, h14, V⟩ K hK
             · go_wp2_with fail
               exact hK _ (.int .i64 (p : Int)) _ (by simp only [Act.put, pA, pB, pC ]) ⟨hY, h13, h14, V.step 0 rfl⟩
             · go_wp2_with fail
               exact hK _ (.int .i64 (i : Int)) _ (by simp only [Act.put, pA, pB, pC ]) ⟨hY, h13, h14, V.step 1 rfl⟩
             · have e1 := V.at (zdq hd 1 rfl) rfl
               go_wp2_with fail
               exact hK _ (.pointer (some ⟨w.heap.size + 1, i * 64, none⟩)) _ (by simp only [Act.put, pA, pB, pC, e1]) ⟨hY, h13, h14, V.step 2 rfl⟩
             · have e2 := V.at (zdq hd 2 rfl) rfl
               refine wp_load_mid 28 _ rfl _ (i * 64) e2 _ _ (((B1.zw hY)).sk (by omega)) Try.underlying28 rfl (by rw [zl]; exact Try.size28) ?_
               exact hK _ _ _ rfl ⟨hY, h13, h14, V.step 3 rfl⟩
             · go_wp2_with fail
               exact hK _ (.int .i64 (p : Int)) _ (by simp only [Act.put, pA, pB, pC ]) ⟨hY, h13, h14, V.step 4 rfl⟩
             · go_wp2_with fail
               exact hK _ (.int .i64 (j : Int)) _ (by simp only [Act.put, pA, pB, pC ]) ⟨hY, h13, h14, V.step 5 rfl⟩
             · have e5 := V.at (zdq hd 5 rfl) rfl
               go_wp2_with fail
               exact hK _ (.pointer (some ⟨w.heap.size + 1 + 1, j * 64, none⟩)) _ (by simp only [Act.put, pA, pB, pC, e5]) ⟨hY, h13, h14, V.step 6 rfl⟩
             · have e6 := V.at (zdq hd 6 rfl) rfl
               refine wp_load_mid 28 _ rfl _ (j * 64) e6 _ _ (((B2.zw hY)).sk (by omega)) Try.underlying28 rfl (by rw [zl]; exact Try.size28) ?_
               exact hK _ _ _ rfl ⟨hY, h13, h14, V.step 7 rfl⟩
             · go_wp2_with fail
               exact hK _ (.int .i64 (i : Int)) _ (by simp only [Act.put, pA, pB, pC ]) ⟨hY, h13, h14, V.step 8 rfl⟩
             · refine zlc (B0.zw hY) Try.underlying28 Try.size28 ?_
               exact hK _ _ _ rfl ⟨hY, h13, h14, V.step 9 rfl⟩
             · have e4 := V.at (zdq hd 4 rfl) rfl
               have e7 := V.at (zdq hd 7 rfl) rfl
               have e8 := V.at (zdq hd 8 rfl) rfl
               have e9 := V.at (zdq hd 9 rfl) rfl
               go_wp2_with (go_at_call 92; refine (HK1.out _).mono ?_; rintro e wy ⟨rfl, hy⟩)
               exact hK _ (.agg (zb 64 (frN p m (G j) (i % d)))) _ (by simp only [Act.put, pA, pB, pC, e4, e7, e8, e9]) ⟨hY.trans (hy.mono hY.size), (fun h => (h13 h).below hy), (fun h => (h14 h).below hy), V.step 10 rfl⟩
             · refine zlc (B0.zw hY) Try.underlying28 Try.size28 ?_
               exact hK _ _ _ rfl ⟨hY, h13, h14, V.step 11 rfl⟩
             · have e0 := V.at (zdq hd 0 rfl) rfl
               have e3 := V.at (zdq hd 3 rfl) rfl
               have e10 := V.at (zdq hd 10 rfl) rfl
               have e11 := V.at (zdq hd 11 rfl) rfl
               go_wp2_with (go_at_call 113; refine (HK2.out _).mono ?_; rintro e wy ⟨rfl, hy⟩)
               exact hK _ (.agg (zb 64 (mmP p (F i) (frN p m (G j) (i % d)) m))) _ (by simp only [Act.put, pA, pB, pC, e0, e3, e10, e11]) ⟨hY.trans (hy.mono hY.size), (fun h => (h13 h).below hy), (fun h => (h14 h).below hy), V.step 12 rfl⟩
             · go_wp2_with fail
               rw [← z64]
               exact hK _ (.pointer (some ⟨W3.heap.size, 0, none⟩)) _ (by simp only [Act.put, pA, pB, pC ]) ⟨hY.alloc hY.size _, (fun _ => (PF.new W3 64 28 _ hY.size).af), (fun h => absurd rfl (hn 14 _ rfl h ⟨13, .data⟩ (by simp) rfl)), V.skip 13 rfl⟩
             · have e12 := V.at (zdq hd 12 rfl) rfl
               obtain ⟨gz, b, ea, hN, hk⟩ := (h13 (zdq hd 13 rfl)).out
               refine zsb 28 _ _ rfl b 64 (mmP p (F i) (frN p m (G j) (i % d)) m) ea e12 28 gz hk Try.size28 ?_
               exact hK _ undef _ rfl ⟨zr hY hN _, (fun h => (h13 h).row hk), (fun _ => by rw [show updV v 14 undef 13 = v 13 from rfl, ea]; exact PF.row hk hN _), V.skip 14 rfl⟩
           · intro L v W3 hL ⟨hY, h13, h14, V⟩
             obtain ⟨k12_13, e13, hNk12_13, hk12_13⟩ := (h14 (hL 14 (by decide))).out
             have e0 := V.at (hL 0 (by decide)) rfl
             have e1 := V.at (hL 1 (by decide)) rfl
             have e2 := V.at (hL 2 (by decide)) rfl
             have e3 := V.at (hL 3 (by decide)) rfl
             have e4 := V.at (hL 4 (by decide)) rfl
             have e5 := V.at (hL 5 (by decide)) rfl
             have e6 := V.at (hL 6 (by decide)) rfl
             have e7 := V.at (hL 7 (by decide)) rfl
             have e8 := V.at (hL 8 (by decide)) rfl
             have e9 := V.at (hL 9 (by decide)) rfl
             have e10 := V.at (hL 10 (by decide)) rfl
             have e11 := V.at (hL 11 (by decide)) rfl
             have e12 := V.at (hL 12 (by decide)) rfl
             clear hL h13 h14 V
             replace B0 := B0.zw hY
             replace B1 := B1.zw hY
             replace B2 := B2.zw hY
             replace B3 := B3.zw hY
             replace B4 := B4.zw hY
             replace hb := hb.trans (hY.mono hb.size)
             clear hY
             simp only [Exit.then, e13, e0, e1, e2, e3, e4, e5, e6, e7, e8, e9, e10, e11, e12]
             clear e13 e0 e1 e2 e3 e4 e5 e6 e7 e8 e9 e10 e11 e12
             have B5 := hk12_13
             clear hk12_13
             have zk12_13_0 : w.heap.size < k12_13 := by omega
             have zk12_13_1 : w.heap.size + 1 < k12_13 := by omega
             have zk12_13_2 : w.heap.size + 1 + 1 < k12_13 := by omega
             have zk12_13_3 : w.heap.size + 1 + 1 + 1 < k12_13 := by omega
             have zk12_13_4 : k1_5 < k12_13 := by omega
             clear lt_B0 lt_B1 lt_B2 lt_B3 lt_B4
             go_upto_region 13 with (fail)
             have lt_B0 : (w.heap.size) < W3.heap.size := B0.lt
             have lt_B1 : (w.heap.size + 1) < W3.heap.size := B1.lt
             have lt_B2 : (w.heap.size + 1 + 1) < W3.heap.size := B2.lt
             have lt_B3 : (w.heap.size + 1 + 1 + 1) < W3.heap.size := B3.lt
             have lt_B4 : (k1_5) < W3.heap.size := B4.lt
             have lt_B5 : (k12_13) < W3.heap.size := B5.lt
             have hbase : w.heap.size ≤ W3.heap.size := hb.size
             refine zq Try.mixed (by kernel_rfl) (by kernel_rfl) (fun v => by (simp only [frL, Act.put, pA, pB, pC, Nat.reduceAdd, Nat.zero_add]; exact rfl))
              (fun L v W4 => Below w.heap.size w W4 ∧ Kx [k1_5] W3 W4 ∧ (∃ g, Blk W4 (k1_5) 512 46 (g)) ∧ (L 12 = false → Blk W4 (k1_5) 512 46 (fl 64 O)) ∧ (L 12 = true → Blk W4 (k1_5) 512 46 (fl 64 (updR O Q (addK p (O Q) (mmP p (F i) (frN p m (G j) (i % d)) m) 1)))) ∧ VF L v [some (.int .i64 (i : Int)), some (.int .i64 (j : Int)), some (.int .i64 (Q : Int)), some (.int .i64 (p : Int)), some (.int .i64 (i : Int)), some (.int .i64 (j : Int)), some (.int .i64 (Q : Int)), some (.pointer (some ⟨k1_5, Q * 64, none⟩)), some (.agg (zb 64 (O Q))), some (.agg (zb 64 (mmP p (F i) (frN p m (G j) (i % d)) m))), some (.agg (zb 64 (addK p (O Q) (mmP p (F i) (frN p m (G j) (i % d)) m) 1))), some (.pointer (some ⟨k1_5, Q * 64, none⟩)), none]) ?_ ?_ ?_
             · intro v hv0
               exact ⟨hb.drew, Kx.start _ _, ⟨_, B4.drew⟩, (fun _ => B4.drew), (fun h => by cases h), VF.start⟩
             · refine (.cons rfl ?_ (.cons rfl ?_ (.cons rfl ?_ (.cons rfl ?_ (.cons rfl ?_ (.cons rfl ?_ (.cons rfl ?_ (.cons rfl ?_ (.cons rfl ?_ (.cons rfl ?_ (.cons rfl ?_ (.cons rfl ?_ (.cons rfl ?_ (.nil _))))))))))))))
               all_goals intro L v W4 hd hn ⟨hB, hX, x4, q4, n4, V⟩ K hK
               · go_wp2_with fail
                 exact hK _ (.int .i64 (i : Int)) _ (by simp only [Act.put, pA, pB, pC ]) ⟨hB, hX, x4, q4, n4, V.step 0 rfl⟩
               · go_wp2_with fail
                 exact hK _ (.int .i64 (j : Int)) _ (by simp only [Act.put, pA, pB, pC ]) ⟨hB, hX, x4, q4, n4, V.step 1 rfl⟩
               · have e0 := V.at (zdq hd 0 rfl) rfl
                 have e1 := V.at (zdq hd 1 rfl) rfl
                 go_wp2_with fail
                 exact hK _ (.int .i64 (Q : Int)) _ (by simp only [Act.put, pA, pB, pC, e0, e1]) ⟨hB, hX, x4, q4, n4, V.step 2 rfl⟩
               · go_wp2_with fail
                 exact hK _ (.int .i64 (p : Int)) _ (by simp only [Act.put, pA, pB, pC ]) ⟨hB, hX, x4, q4, n4, V.step 3 rfl⟩
               · go_wp2_with fail
                 exact hK _ (.int .i64 (i : Int)) _ (by simp only [Act.put, pA, pB, pC ]) ⟨hB, hX, x4, q4, n4, V.step 4 rfl⟩
               · go_wp2_with fail
                 exact hK _ (.int .i64 (j : Int)) _ (by simp only [Act.put, pA, pB, pC ]) ⟨hB, hX, x4, q4, n4, V.step 5 rfl⟩
               · have e4 := V.at (zdq hd 4 rfl) rfl
                 have e5 := V.at (zdq hd 5 rfl) rfl
                 go_wp2_with fail
                 exact hK _ (.int .i64 (Q : Int)) _ (by simp only [Act.put, pA, pB, pC, e4, e5]) ⟨hB, hX, x4, q4, n4, V.step 6 rfl⟩
               · have e6 := V.at (zdq hd 6 rfl) rfl
                 go_wp2_with fail
                 exact hK _ (.pointer (some ⟨k1_5, Q * 64, none⟩)) _ (by simp only [Act.put, pA, pB, pC, e6]) ⟨hB, hX, x4, q4, n4, V.step 7 rfl⟩
               · have e7 := V.at (zdq hd 7 rfl) rfl
                 have s4 := q4 (by
                  cases hL : L 12 with
                  | false => rfl
                  | true => exact absurd rfl (hn 12 _ rfl hL ⟨8, .phase⟩ (by simp) rfl))
                 refine wp_load_mid 28 _ rfl _ (Q * 64) e7 _ _ ((s4).sk (by omega)) Try.underlying28 rfl (by rw [zl]; exact Try.size28) ?_
                 exact hK _ _ _ rfl ⟨hB, hX, x4, q4, n4, V.step 8 rfl⟩
               · refine wp_load_any 28 _ rfl _ rfl 64 28 _ (B5.kx hX (by simp <;> omega)) _ Try.underlying28 rfl Try.size28 ?_
                 exact hK _ _ _ rfl ⟨hB, hX, x4, q4, n4, V.step 9 rfl⟩
               · have e3 := V.at (zdq hd 3 rfl) rfl
                 have e8 := V.at (zdq hd 8 rfl) rfl
                 have e9 := V.at (zdq hd 9 rfl) rfl
                 go_wp2_with (go_at_call 80; refine (HK3.out _).mono ?_; rintro e wy ⟨rfl, hy⟩)
                 exact hK _ (.agg (zb 64 (addK p (O Q) (mmP p (F i) (frN p m (G j) (i % d)) m) 1))) _ (by simp only [Act.put, pA, pB, pC, e3, e8, e9]) ⟨hB.trans (hy.mono hB.size), hX.below hy, (let ⟨g, h⟩ := x4; ⟨g, h.zw hy⟩), (fun h => (q4 h).below hy (q4 h).lt), (fun h => (n4 h).below hy (n4 h).lt), V.step 10 rfl⟩
               · have e2 := V.at (zdq hd 2 rfl) rfl
                 go_wp2_with fail
                 exact hK _ (.pointer (some ⟨k1_5, Q * 64, none⟩)) _ (by simp only [Act.put, pA, pB, pC, e2]) ⟨hB, hX, x4, q4, n4, V.step 11 rfl⟩
               · have e11 := V.at (zdq hd 11 rfl) rfl
                 have e10 := V.at (zdq hd 10 rfl) rfl
                 obtain ⟨gz, hk, hg⟩ : ∃ gz, Blk W4 (k1_5) 512 46 (fl 64 gz) ∧ updR gz (Q) (addK p (O Q) (mmP p (F i) (frN p m (G j) (i % d)) m) 1) = updR O (Q) (addK p (O Q) (mmP p (F i) (frN p m (G j) (i % d)) m) 1) := by
                  cases hL : L 12 with
                  | false => exact ⟨_, q4 hL, rfl⟩
                  | true => exact ⟨_, n4 hL, updR_twice _ _ _⟩
                 refine wp_store_sk 28 _ _ rfl _ (Q) (addK p (O Q) (mmP p (F i) (frN p m (G j) (i % d)) m) 1) e11 e10 46 gz hk (by omega) Try.size28 ?_
                 rw [hg]
                 exact hK _ undef _ rfl ⟨zr hB (by omega) _, hX.row (by simp) _, ⟨_, hk.row _⟩, (fun h => absurd h (by simp [setL])), (fun _ => hk.row _), V.skip 12 rfl⟩
             · intro L v W4 hL ⟨hB, hX, x4, q4, n4, V⟩
               have r4 := n4 (hL 12 (by decide))
               have e0 := V.at (hL 0 (by decide)) rfl
               have e1 := V.at (hL 1 (by decide)) rfl
               have e2 := V.at (hL 2 (by decide)) rfl
               have e3 := V.at (hL 3 (by decide)) rfl
               have e4 := V.at (hL 4 (by decide)) rfl
               have e5 := V.at (hL 5 (by decide)) rfl
               have e6 := V.at (hL 6 (by decide)) rfl
               have e7 := V.at (hL 7 (by decide)) rfl
               have e8 := V.at (hL 8 (by decide)) rfl
               have e9 := V.at (hL 9 (by decide)) rfl
               have e10 := V.at (hL 10 (by decide)) rfl
               have e11 := V.at (hL 11 (by decide)) rfl
               clear hL x4 q4 n4 V
               replace B0 := B0.kx hX (by simp <;> omega)
               replace B1 := B1.kx hX (by simp <;> omega)
               replace B2 := B2.kx hX (by simp <;> omega)
               replace B3 := B3.kx hX (by simp <;> omega)
               replace B5 := B5.kx hX (by simp <;> omega)
               clear hX
               simp only [Exit.then, e0, e1, e2, e3, e4, e5, e6, e7, e8, e9, e10, e11]
               clear e0 e1 e2 e3 e4 e5 e6 e7 e8 e9 e10 e11
               replace B4 := r4
               clear r4
               replace hb := hB
               clear hB
               clear hbase lt_B0 lt_B1 lt_B2 lt_B3 lt_B4 lt_B5
               go_wp2_with fail
               go_roundw
               case rel => exact ⟨j + 1, _, by go_num, by omega, Lib.hid (by rw [HJS.out, ← hO.out, ← HQ.out]), hb, B1, B0, B2, B3, B4⟩
               case measure => simp [intOf] <;> omega
         · have hjI : ¬ (j : Int) ≤ skD G := by have := HB.out; omega
           obtain rfl : j = B := by omega
           go_wp2_with fail
           go_roundw
           case rel => exact ⟨i + 1, O, by go_num, by omega, Lib.hid (by rw [HS.out, hO.out]), hb, B1, B0, B2, B3, B4⟩
           case measure => simp [intOf] <;> omega
      · have hiI : ¬ (i : Int) ≤ skD F := by have := HA.out; omega
        obtain rfl : i = A := by omega
        go_upto_region 14 with (fail)
        have lt_B0 := B0.lt
        have lt_B1 := B1.lt
        have lt_B2 := B2.lt
        have lt_B3 := B3.lt
        have lt_B4 := B4.lt
        go_wp2_with (first | rw [← z64] | rw [← zero512] | (refine zla (.tmp 12) B4 Try.underlying46 Try.size46 ?_) | (refine zsr (.tmp 8) (.tmp 68) (fl 64 O) B3 Try.size46 ?_; try simp only [Act.put]; go_wp2_with fail))
        obtain ⟨W3, hwo, hzQ⟩ : ∃ v : World, v = (wr.setRow (w.heap.size + 1 + 1 + 1) (zb 512 (fl 64 O))) ∧ Blk v (w.heap.size) 64 28 (m) ∧ Blk v (w.heap.size + 1) 512 46 (fl 64 F) ∧ Blk v (w.heap.size + 1 + 1) 512 46 (fl 64 G) ∧ Blk v (w.heap.size + 1 + 1 + 1) 512 46 (fl 64 O) ∧ Blk v (k1_5) 512 46 (fl 64 O) ∧ Below w.heap.size w v := ⟨_, rfl, (B0.rowOther (by omega)), (B1.rowOther (by omega)), (B2.rowOther (by omega)), (B3.row (fl 64 O)), (B4.rowOther (by omega)), (zr hb (by omega) _)⟩
        rw [← hwo]
        clear hwo B0 B1 B2 B3 B4 hb
        obtain ⟨B0, B1, B2, B3, B4, hb⟩ := hzQ
        try simp only [Act.put, pA, pB, pC]
        refine bodyPost_ret (zrt rfl _ _ _ 512 _ _ rfl B3 _ Try.underlying46 rfl Try.size46) rfl ⟨by first | (rw [HP.out, ← hO.out]; done) | (rw [HP.out, ← hO.out]; rfl), hb⟩
end Go.Proofs.Ytelgefgphhebnaa
end
section
namespace Go.Proofs.Ytelgefgphhebnaa
open Go Go.RowKit
set_option linter.unusedVariables false
set_option linter.unusedSimpArgs false
attribute [local irreducible] deg addK strP frI frN mmP pmP resP
set_option maxRecDepth 100000 in
set_option maxHeartbeats 1600000 in
theorem kplus_any (p : Nat) (m f g : Nat → Nat) (w : World) (hpr : p = 2 ∨ p = 3 ∨ p = 5 ∨ p = 7) (lf : ∀ k, k < 64 → f k < p) (lg : ∀ k, k < 64 → g k < p) :
 Calls Try.prog 210 #[.agg (fdC (p : Int) m).toArray, .agg (zb 64 f), .agg (zb 64 g)] w fun e w' => e = .returned (.agg (zb 64 (addK p f g 1))) ∧ Below w.heap.size w w' := by
 have HSU := Lib.hid (show ∀ W, Calls Try.prog 117 #[.int .i64 (p : Int), .agg (zb 64 f), .agg (zb 64 g)] W fun e w' => e = .returned (.agg (zb 64 (addK p f g 1))) ∧ Below W.heap.size W w' from fun W => by
  rw [addK_one]; exact sum_any p _ _ W (by omega) (by omega) lf lg)
 go_enter Try.func210, Try.ntmps210
 go_upto_region 1 with (fail)
 rw [← z64]
 obtain ⟨W1, hwo⟩ : ∃ v : World, v = ((((w.alloc (.cells (fdC (p : Int) m).toArray 70)).alloc (.cells (zb 64 (f)) 28)).alloc (.cells (zb 64 (g)) 28)).alloc (.cells (zb 64 (fun _ => 0)) 28)) := ⟨_, rfl⟩
 have B0 : Row W1 (w.heap.size) 70 (fdC (p : Int) m).toArray := by subst hwo; have := ((((Row.new w 70 (fdC (p : Int) m).toArray).alloc (.cells (zb 64 (f)) 28)).alloc (.cells (zb 64 (g)) 28)).alloc (.cells (zb 64 (fun _ => 0)) 28)); simpa using this
 have B1 : Blk W1 (w.heap.size + 1) 64 28 (f) := by subst hwo; have := (((Blk.new (w.alloc (.cells (fdC (p : Int) m).toArray 70)) 64 28 (f)).alloc (.cells (zb 64 (g)) 28)).alloc (.cells (zb 64 (fun _ => 0)) 28)); simpa using this
 have B2 : Blk W1 (w.heap.size + 1 + 1) 64 28 (g) := by subst hwo; have := ((Blk.new ((w.alloc (.cells (fdC (p : Int) m).toArray 70)).alloc (.cells (zb 64 (f)) 28)) 64 28 (g)).alloc (.cells (zb 64 (fun _ => 0)) 28)); simpa using this
 have B3 : Blk W1 (w.heap.size + 1 + 1 + 1) 64 28 (fun _ => 0) := by subst hwo; have := (Blk.new (((w.alloc (.cells (fdC (p : Int) m).toArray 70)).alloc (.cells (zb 64 (f)) 28)).alloc (.cells (zb 64 (g)) 28)) 64 28 (fun _ => 0)); simpa using this
 have hb : Below w.heap.size w W1 := by subst hwo; exact (((((Below.refl _ _).alloc (Nat.le_refl _) _).alloc (by simp) _).alloc (by simp; omega) _).alloc (by simp; omega) _)
 rw [← hwo]
 clear hwo
 have cc := B0.cell (i := 0) (v := .int .i64 (p : Int)) (fdC_at (p : Int) m)
 have lt_B0 := B0.lt
 have lt_B1 := B1.lt
 have lt_B2 := B2.lt
 have lt_B3 := B3.lt
 go_wp2_with (first | rw [← z64] | (refine zla (.tmp 4) B1 Try.underlying28 Try.size28 ?_) | (refine zla (.tmp 5) B2 Try.underlying28 Try.size28 ?_) | (go_at_call 117; refine (HSU.out _).mono ?_; rintro e W2 ⟨rfl, hW2⟩; replace B0 := B0.zw hW2; replace B1 := B1.zw hW2; replace B2 := B2.zw hW2; replace B3 := B3.zw hW2; replace hb := (hb).trans (hW2.mono (hb).size)) | (refine zsr (.tmp 6) (.tmp 11) (addK p f g 1) B3 Try.size28 ?_; try simp only [Act.put]))
 obtain ⟨W3, hwo, hzQ⟩ : ∃ v : World, v = (W2.setRow (w.heap.size + 1 + 1 + 1) (zb 64 (addK p f g 1))) ∧ Row v (w.heap.size) 70 (fdC (p : Int) m).toArray ∧ Blk v (w.heap.size + 1) 64 28 (f) ∧ Blk v (w.heap.size + 1 + 1) 64 28 (g) ∧ Blk v (w.heap.size + 1 + 1 + 1) 64 28 (addK p f g 1) ∧ Below w.heap.size w v := ⟨_, rfl, (B0.rowOther (by omega)), (B1.rowOther (by omega)), (B2.rowOther (by omega)), (B3.row (addK p f g 1)), (zr hb (by omega) _)⟩
 rw [← hwo]
 clear hwo B0 B1 B2 B3 hb
 obtain ⟨B0, B1, B2, B3, hb⟩ := hzQ
 try simp only [Act.put, pA, pB, pC]
 refine bodyPost_ret (zrb rfl _ _ _ 64 28 5 _ rfl B3 Try.underlying28 Try.size28) rfl ⟨rfl, hb⟩
set_option maxRecDepth 100000 in
set_option maxHeartbeats 1600000 in
theorem kacross_any (p : Nat) (m x y : Nat → Nat) (n : Nat) (w : World) (hpr : p = 2 ∨ p = 3 ∨ p = 5 ∨ p = 7) (lm : ∀ k, k < 64 → m k < p) (d : Nat) (hd : deg m = (d : Int)) (hd1 : 1 ≤ d) (hd9 : d ≤ 9) (hn : n ≤ 1000) (lx : ∀ k, k < 64 → x k < p) (hy : rsd p m y) :
 Calls Try.prog 209 #[.agg (fdC (p : Int) m).toArray, .agg (zb 64 x), .int .i64 (n : Int), .agg (zb 64 y)] w fun e w' => e = .returned (.agg (zb 64 (mmP p x (frN p m y (n % d)) m))) ∧ Below w.heap.size w w' := by
 have p0 : 0 < p := by omega
 have h0 : 0 ≤ deg m := by omega
 have h9 : deg m ≤ 9 := by omega
 have HFR := Lib.hid (fun W => kfrob_any p m y n W hpr lm d hd hd1 hd9 hn hy)
 have HMM := Lib.hid (fun W => kproduct_any p m x (frN p m y (n % d)) W hpr lm h0 lx (frN_ok hpr lm h0 h9 hy (n % d)).1.1)
 go_enter Try.func209, Try.ntmps209
 go_upto_region 1 with (fail)
 rw [← z64]
 obtain ⟨W1, hwo⟩ : ∃ v : World, v = ((((w.alloc (.cells (fdC (p : Int) m).toArray 70)).alloc (.cells (zb 64 (x)) 28)).alloc (.cells (zb 64 (y)) 28)).alloc (.cells (zb 64 (fun _ => 0)) 28)) := ⟨_, rfl⟩
 have B0 : Row W1 (w.heap.size) 70 (fdC (p : Int) m).toArray := by subst hwo; have := ((((Row.new w 70 (fdC (p : Int) m).toArray).alloc (.cells (zb 64 (x)) 28)).alloc (.cells (zb 64 (y)) 28)).alloc (.cells (zb 64 (fun _ => 0)) 28)); simpa using this
 have B1 : Blk W1 (w.heap.size + 1) 64 28 (x) := by subst hwo; have := (((Blk.new (w.alloc (.cells (fdC (p : Int) m).toArray 70)) 64 28 (x)).alloc (.cells (zb 64 (y)) 28)).alloc (.cells (zb 64 (fun _ => 0)) 28)); simpa using this
 have B2 : Blk W1 (w.heap.size + 1 + 1) 64 28 (y) := by subst hwo; have := ((Blk.new ((w.alloc (.cells (fdC (p : Int) m).toArray 70)).alloc (.cells (zb 64 (x)) 28)) 64 28 (y)).alloc (.cells (zb 64 (fun _ => 0)) 28)); simpa using this
 have B3 : Blk W1 (w.heap.size + 1 + 1 + 1) 64 28 (fun _ => 0) := by subst hwo; have := (Blk.new (((w.alloc (.cells (fdC (p : Int) m).toArray 70)).alloc (.cells (zb 64 (x)) 28)).alloc (.cells (zb 64 (y)) 28)) 64 28 (fun _ => 0)); simpa using this
 have hb : Below w.heap.size w W1 := by subst hwo; exact (((((Below.refl _ _).alloc (Nat.le_refl _) _).alloc (by simp) _).alloc (by simp; omega) _).alloc (by simp; omega) _)
 rw [← hwo]
 clear hwo
 have lt_B0 : (w.heap.size) < W1.heap.size := B0.lt
 have lt_B1 : (w.heap.size + 1) < W1.heap.size := B1.lt
 have lt_B2 : (w.heap.size + 1 + 1) < W1.heap.size := B2.lt
 have lt_B3 : (w.heap.size + 1 + 1 + 1) < W1.heap.size := B3.lt
 have hbase : w.heap.size ≤ W1.heap.size := hb.size
 refine zq Try.mixed (by kernel_rfl) (by kernel_rfl) (fun v => by (simp only [frL, Act.put, pA, pB, pC, Nat.reduceAdd, Nat.zero_add]; exact rfl))
  (fun L v W2 => Below w.heap.size w W2 ∧ Kx [w.heap.size + 1 + 1 + 1] W1 W2 ∧ (∃ g, Blk W2 (w.heap.size + 1 + 1 + 1) 64 28 (g)) ∧ (L 7 = false → Blk W2 (w.heap.size + 1 + 1 + 1) 64 28 (fun _ => 0)) ∧ (L 7 = true → Blk W2 (w.heap.size + 1 + 1 + 1) 64 28 (mmP p x (frN p m y (n % d)) m)) ∧ VF L v [some (.agg (fdC (p : Int) m).toArray), some (.agg (zb 64 (x))), some (.agg (fdC (p : Int) m).toArray), some (.agg (zb 64 (y))), some (.int .i64 (n : Int)), some (.agg (zb 64 (frN p m y (n % d)))), some (.agg (zb 64 (mmP p x (frN p m y (n % d)) m))), none]) ?_ ?_ ?_
 · intro v hv0
   exact ⟨hb.drew, Kx.start _ _, ⟨_, B3.drew⟩, (fun _ => B3.drew), (fun h => by cases h), VF.start⟩
 · refine (.cons rfl ?_ (.cons rfl ?_ (.cons rfl ?_ (.cons rfl ?_ (.cons rfl ?_ (.cons rfl ?_ (.cons rfl ?_ (.cons rfl ?_ (.nil _)))))))))
   all_goals intro L v W2 hd hn ⟨hB, hX, x3, q3, n3, V⟩ K hK
   · refine wp_load_rowv 70 _ rfl _ rfl 70 _ (B0.kx hX (by simp <;> omega)) _ Try.underlying70 rfl 65 Try.size70 (by simp [fdC_len]) ?_
     exact hK _ _ _ rfl ⟨hB, hX, x3, q3, n3, V.step 0 rfl⟩
   · refine wp_load_any 28 _ rfl _ rfl 64 28 _ (B1.kx hX (by simp <;> omega)) _ Try.underlying28 rfl Try.size28 ?_
     exact hK _ _ _ rfl ⟨hB, hX, x3, q3, n3, V.step 1 rfl⟩
   · refine wp_load_rowv 70 _ rfl _ rfl 70 _ (B0.kx hX (by simp <;> omega)) _ Try.underlying70 rfl 65 Try.size70 (by simp [fdC_len]) ?_
     exact hK _ _ _ rfl ⟨hB, hX, x3, q3, n3, V.step 2 rfl⟩
   · refine wp_load_any 28 _ rfl _ rfl 64 28 _ (B2.kx hX (by simp <;> omega)) _ Try.underlying28 rfl Try.size28 ?_
     exact hK _ _ _ rfl ⟨hB, hX, x3, q3, n3, V.step 3 rfl⟩
   · go_wp2_with fail
     exact hK _ (.int .i64 (n : Int)) _ (by simp only [Act.put, pA, pB, pC ]) ⟨hB, hX, x3, q3, n3, V.step 4 rfl⟩
   · have e2 := V.at (zdq hd 2 rfl) rfl
     have e3 := V.at (zdq hd 3 rfl) rfl
     have e4 := V.at (zdq hd 4 rfl) rfl
     go_wp2_with (go_at_call 93; refine (HFR.out _).mono ?_; rintro e wy ⟨rfl, hy⟩)
     exact hK _ (.agg (zb 64 (frN p m y (n % d)))) _ (by simp only [Act.put, pA, pB, pC, e2, e3, e4]) ⟨hB.trans (hy.mono hB.size), hX.below hy, (let ⟨g, h⟩ := x3; ⟨g, h.zw hy⟩), (fun h => (q3 h).below hy (q3 h).lt), (fun h => (n3 h).below hy (n3 h).lt), V.step 5 rfl⟩
   · have e0 := V.at (zdq hd 0 rfl) rfl
     have e1 := V.at (zdq hd 1 rfl) rfl
     have e5 := V.at (zdq hd 5 rfl) rfl
     go_wp2_with (go_at_call 122; refine (HMM.out _).mono ?_; rintro e wy ⟨rfl, hy⟩)
     exact hK _ (.agg (zb 64 (mmP p x (frN p m y (n % d)) m))) _ (by simp only [Act.put, pA, pB, pC, e0, e1, e5]) ⟨hB.trans (hy.mono hB.size), hX.below hy, (let ⟨g, h⟩ := x3; ⟨g, h.zw hy⟩), (fun h => (q3 h).below hy (q3 h).lt), (fun h => (n3 h).below hy (n3 h).lt), V.step 6 rfl⟩
   · have e6 := V.at (zdq hd 6 rfl) rfl
     obtain ⟨gz, hk⟩ := x3
     refine zsb 28 _ _ rfl _ 64 (mmP p x (frN p m y (n % d)) m) rfl e6 28 gz hk Try.size28 ?_
     exact hK _ undef _ rfl ⟨zr hB (by omega) _, hX.row (by simp) _, ⟨_, hk.row _⟩, (fun h => absurd h (by simp [setL])), (fun _ => hk.row _), V.skip 7 rfl⟩
 · intro L v W2 hL ⟨hB, hX, x3, q3, n3, V⟩
   have r3 := n3 (hL 7 (by decide))
   have e0 := V.at (hL 0 (by decide)) rfl
   have e1 := V.at (hL 1 (by decide)) rfl
   have e2 := V.at (hL 2 (by decide)) rfl
   have e3 := V.at (hL 3 (by decide)) rfl
   have e4 := V.at (hL 4 (by decide)) rfl
   have e5 := V.at (hL 5 (by decide)) rfl
   have e6 := V.at (hL 6 (by decide)) rfl
   clear hL x3 q3 n3 V
   replace B0 := B0.kx hX (by simp <;> omega)
   replace B1 := B1.kx hX (by simp <;> omega)
   replace B2 := B2.kx hX (by simp <;> omega)
   clear hX
   simp only [Exit.then, e0, e1, e2, e3, e4, e5, e6]
   clear e0 e1 e2 e3 e4 e5 e6
   replace B3 := r3
   clear r3
   replace hb := hB
   clear hB
   clear hbase lt_B0 lt_B1 lt_B2 lt_B3
   go_wp2_with fail
   refine bodyPost_ret (zrb rfl _ _ _ 64 28 5 _ rfl B3 Try.underlying28 Try.size28) rfl ⟨rfl, hb⟩
set_option maxRecDepth 100000 in
set_option maxHeartbeats 1600000 in
theorem withoutZerosBehind_any (a : Option Addr) (n cap : Nat) (R : Nat → Nat → Nat) (w : World) (hs : SlR w a n R) (hnc : n ≤ cap) (hn9 : n ≤ 100000) :
 Calls Try.prog 126 #[.slice a n cap] w fun e w' => e = .returned (.slice a (skN R n + 1).toNat cap) ∧ Below w.heap.size w w' := by
 go_enter Try.func126, Try.ntmps126
 have hb := Below.refl w.heap.size w
 go_wp2_with fail
 go_loopw [0] (fun v wr => ∃ q : Nat, v = .slice a q cap ∧ q ≤ n ∧ Hid (skN R q = skN R n) ∧ Below w.heap.size w wr) (fun v _ => slLen v)
 case atStart => exact ⟨n, rfl, Nat.le_refl _, Lib.hid rfl, hb⟩
 case round =>
  clear hb
  obtain ⟨q, rfl, hqn, hQ, hb⟩ := hrel
  cases q with
  | zero =>
   have hq0 : ¬ (((0 : Nat) : Int) > 0) := by omega
   have HV := Lib.hid (show (skN R n + 1).toNat = 0 by have := hQ.out; rw [skN_z] at this; omega)
   clear hQ
   go_wp2_with fail
   go_ret
   exact ⟨by rw [HV.out]; rfl, hb⟩
  | succ r =>
   obtain ⟨b, nb, t, rfl, hnb, B0⟩ := hs.has (by omega)
   replace B0 := B0.zw hb
   have hq0 : (((r + 1 : Nat) : Int) > 0) := by omega
   have hq1 : ((r + 1 : Nat) : Int) - 1 = (r : Int) := by omega
   have hqr : (r : Int) < ((r + 1 : Nat) : Int) := by omega
   have hr9 : (r : Int) ≤ 100000 := by omega
   have hgd := Try.noGuard28
   have heq := fun W => zeb (P := Try.prog) W 9998 28 5 64 (R r) (fun _ => 0) Try.underlying28 Try.underlying5 Try.size5
   cases hz : eqN 64 (R r) (fun _ => 0) with
   | true =>
    rw [hz] at heq
    have HS := Lib.hid (show skN R r = skN R n by rw [← hQ.out, skN_skip hz])
    clear hz hQ
    have hrc : (r : Int) ≤ (cap : Int) := by omega
    go_wp2_with (first | (refine wpList_load_mid_g rfl 28 (.tmp 11) rfl _ (r * 64) rfl (bl 64 (R r)) _ (B0.rowF (r := nb) (c := 64) (by omega)) Try.underlying28 rfl (by rw [zl]; exact Try.size28) ?_) | rw [← z64])
    go_roundw
    case rel => exact ⟨r, by first | rfl | simp, by omega, HS, hb⟩
    case measure => simp [slLen]
   | false =>
    rw [hz] at heq
    have HV := Lib.hid (show (skN R n + 1).toNat = r + 1 by rw [← hQ.out, skN_stop hz]; omega)
    clear hz hQ
    go_wp2_with (first | (refine wpList_load_mid_g rfl 28 (.tmp 11) rfl _ (r * 64) rfl (bl 64 (R r)) _ (B0.rowF (r := nb) (c := 64) (by omega)) Try.underlying28 rfl (by rw [zl]; exact Try.size28) ?_) | rw [← z64])
    go_ret
    exact ⟨by rw [HV.out]; rfl, hb⟩
set_option maxRecDepth 100000 in
set_option maxHeartbeats 1600000 in
theorem skewProduct_any (p : Nat) (m : Nat → Nat) (F G : Nat → Nat → Nat) (A B cA cB : Nat) (aA aB : Option Addr) (w : World) (hpr : p = 2 ∨ p = 3 ∨ p = 5 ∨ p = 7) (lm : ∀ k, k < 64 → m k < p) (d : Nat) (hd : deg m = (d : Int)) (hd1 : 1 ≤ d) (hd9 : d ≤ 9) (hA : A ≤ 64) (hB : B ≤ 64)
 (lF : ∀ i, i < A → ∀ k, k < 64 → F i k < p) (lG : ∀ j, j < B → rsd p m (G j)) (hf : SlR w aA A F) (hg : SlR w aB B G) :
 Calls Try.prog 145 #[.agg (fdC (p : Int) m).toArray, .slice aA A cA, .slice aB B cB] w fun e w' => ∃ c, e = .returned (.slice (some ⟨c, 0, none⟩) (skN (spR p m d F G B A) (A + B) + 1).toNat (A + B)) ∧ w.heap.size ≤ c ∧ Blk w' c ((A + B) * 64) 28 (fl 64 (spR p m d F G B A)) ∧ Below w.heap.size w w' := by
 have p0 : 0 < p := by omega
 have h0 : 0 ≤ deg m := by omega
 have h9 : deg m ≤ 9 := by omega
 have p2 : 2 ≤ p := by omega
 have p7 : p ≤ 7 := by omega
 obtain ⟨M, hM⟩ : ∃ M : Nat, M = A + B := ⟨_, rfl⟩
 have hMI : (A : Int) + (B : Int) = (M : Int) := by omega
 have hM9 : M ≤ 100000 := by omega
 rw [← hM]
 have HM := Lib.hid hM
 clear hM
 have HX := Lib.hid (fun j (hj : j < B) i => (frN_ok hpr lm h0 h9 (lG j hj) i).1)
 have HAC := Lib.hid (fun i (hi : i < A) j (hj : j < B) W => kacross_any p m (F i) (G j) i W hpr lm d hd hd1 hd9 (by omega) (lF i hi) (lG j hj))
 have HPL := Lib.hid (fun (f g : Nat → Nat) (hf : ∀ k, f k < p) (hg : ∀ k, k < 64 → g k < p) W => kplus_any p m f g W hpr (fun k _ => hf k) hg)
 have HJL := Lib.hid (fun i j r k => spJ_lt (p := p) (m := m) (d := d) (F := F) (G := G) (i := i) p0 (spR_lt (m := m) (d := d) (F := F) (G := G) (n := B) p0 i) j r k)
 have HML := Lib.hid (fun i j k (hk : k < 64) => mmP_lt (p := p) (a := F i) (b := frN p m (G j) (i % d)) (m := m) p0 k (by omega))
 have HZ := Lib.hid (spR_z (p := p) (m := m) (d := d) (F := F) (G := G) B)
 have HS := Lib.hid (spR_s (p := p) (m := m) (d := d) (F := F) (G := G) B)
 have HJZ := Lib.hid (spJ_z (p := p) (m := m) (d := d) (F := F) (G := G))
 have HJK := Lib.hid (fun i j O h => spJ_skip (p := p) (m := m) (d := d) (F := F) (G := G) (i := i) (j := j) (O := O) h)
 have HJS := Lib.hid (fun i j O h h2 => spJ_s (p := p) (m := m) (d := d) (F := F) (G := G) (i := i) (j := j) (O := O) h h2)
 have HWZ := Lib.hid (fun (W : World) (c : Nat) (R : Nat → Nat → Nat) (h : Blk W c (M * 64) 28 (fl 64 R)) => withoutZerosBehind_any (some ⟨c, 0, none⟩) M M R W (SlR.of h (Nat.le_refl _)) (Nat.le_refl _) hM9)
 clear hd lF lG
 go_enter Try.func145, Try.ntmps145
 go_upto_region 1 with (fail)
 obtain ⟨W1, hwo⟩ : ∃ v : World, v = (w.alloc (.cells (fdC (p : Int) m).toArray 70)) := ⟨_, rfl⟩
 have B0 : Row W1 (w.heap.size) 70 (fdC (p : Int) m).toArray := by subst hwo; have := (Row.new w 70 (fdC (p : Int) m).toArray); simpa using this
 have hb : Below w.heap.size w W1 := by subst hwo; exact ((Below.refl _ _).alloc (Nat.le_refl _) _)
 rw [← hwo]
 clear hwo
 go_upto_region 2 with (refine wpList_make_rows _ rfl 30 (.tmp 16) (.tmp 16) rfl 28 Try.underlying30 Try.made28 M hM9 rfl rfl ?_)
 have lt_B0 := B0.lt
 have lhb := hb.size
 obtain ⟨W2, hwo, hzQ⟩ : ∃ v : World, v = (W1.alloc (.cells (zb (M * 64) (fl 64 (fun _ _ => 0))) 28)) ∧ Row v (w.heap.size) 70 (fdC (p : Int) m).toArray ∧ Blk v (W1.heap.size) (M * 64) 28 (fl 64 (fun _ _ => 0)) ∧ Below w.heap.size w v := ⟨_, rfl, (B0.alloc (.cells (zb (M * 64) (fl 64 (fun _ _ => 0))) 28)), (Blk.new W1 (M * 64) 28 (fl 64 (fun _ _ => 0))), (hb.alloc (by have := hb.size; simp; omega) (.cells (zb (M * 64) (fl 64 (fun _ _ => 0))) 28))⟩
 rw [← hwo]
 clear hwo B0 hb
 obtain ⟨B0, B1, hb⟩ := hzQ
 obtain ⟨N1, hNN⟩ : ∃ n : Nat, n = W1.heap.size := ⟨_, rfl⟩
 rw [← hNN] at lt_B0 lhb B1 ⊢
 clear hNN
 have zN1_0 := lt_B0
 have zN1 := lhb
 clear lt_B0 lhb
 try simp only [Act.put, pA, pB, pC]
 go_wp2_with fail
 go_loopw [20] (fun c wr => ∃ (i : Nat) (O : Nat → Nat → Nat), c = .int .i64 (i : Int) ∧ i ≤ A ∧ Hid (O = spR p m d F G B i) ∧ Below w.heap.size w wr ∧ Row wr (w.heap.size) 70 (fdC (p : Int) m).toArray ∧ w.heap.size ≤ N1 ∧ Blk wr (N1) (M * 64) 28 (fl 64 O)) (fun c _ => A - (intOf c).toNat)
 case atStart => exact ⟨0, _, rfl, Nat.zero_le _, Lib.hid HZ.out.symm, hb, B0, by omega, B1⟩
 case round =>
  clear hb B0 B1
  obtain ⟨i, O, rfl, hiA, hO, hb, B0, hlw, B1⟩ := hrel
  by_cases hi : i < A
  · have hiI : (i : Int) < (A : Int) := by omega
    obtain ⟨bf, nf, tf, rfl, hnf, BF⟩ := hf.has (by omega)
    replace BF := BF.zw hb
    go_upto_region 4 with (fail)
    have B2 := BF
    clear BF
    have lt_B0 := B0.lt
    have lt_B1 := B1.lt
    have lt_B2 := B2.lt
    go_upto_region 5 with (first | rw [← z64] | (refine wpList_load_mid rfl 28 (.tmp 23) rfl _ (i * 64) rfl (bl 64 (F i)) _ (B2.rowF (r := nf) (c := 64) (by omega)) Try.underlying28 rfl (by rw [zl]; exact Try.size28) ?_) | (refine wpList_store_blk rfl 28 (.tmp 9) (.tmp 24) rfl _ 64 (F i) rfl rfl 28 _ ((Blk.new wr 64 28 (fun _ => 0))) Try.size28 ?_; try simp only [Act.put]))
    have lt_B0 := B0.lt
    have lt_B1 := B1.lt
    have lt_B2 := B2.lt
    have lhb := hb.size
    obtain ⟨W3, hwo, hzQ⟩ : ∃ v : World, v = ((wr.alloc (.cells (zb 64 (fun _ => 0)) 28)).setRow (wr.heap.size) (zb 64 (F i))) ∧ Row v (w.heap.size) 70 (fdC (p : Int) m).toArray ∧ Blk v (N1) (M * 64) 28 (fl 64 O) ∧ Blk v (bf) (nf * 64) tf (fl 64 F) ∧ Blk v (wr.heap.size) 64 28 (F i) ∧ Below w.heap.size w v := ⟨_, rfl, ((B0.alloc (.cells (zb 64 (fun _ => 0)) 28)).rowOther (by omega)), ((B1.alloc (.cells (zb 64 (fun _ => 0)) 28)).rowOther (by omega)), ((B2.alloc (.cells (zb 64 (fun _ => 0)) 28)).rowOther (by omega)), ((Blk.new wr 64 28 (fun _ => 0)).row (F i)), (zr (hb.alloc (by have := hb.size; simp; omega) (.cells (zb 64 (fun _ => 0)) 28)) (by omega) _)⟩
    rw [← hwo]
    clear hwo B0 B1 B2 hb
    obtain ⟨B0, B1, B2, B3, hb⟩ := hzQ
    obtain ⟨N2, hNN⟩ : ∃ n : Nat, n = wr.heap.size := ⟨_, rfl⟩
    rw [← hNN] at lt_B0 lt_B1 lt_B2 lhb B3 ⊢
    clear hNN
    have zN2_0 := lt_B0
    have zN2_1 := lt_B1
    have zN2_2 := lt_B2
    have zN2 := lhb
    clear lt_B0 lt_B1 lt_B2 lhb
    try simp only [Act.put, pA, pB, pC]
    clear B2
    go_wp2_with fail
    go_loopw [27] (fun c wr => ∃ (j : Nat) (O : Nat → Nat → Nat), c = .int .i64 (j : Int) ∧ j ≤ B ∧ Hid (O = spJ p m d F G i (spR p m d F G B i) j) ∧ Below w.heap.size w wr ∧ Row wr (w.heap.size) 70 (fdC (p : Int) m).toArray ∧ w.heap.size ≤ N1 ∧ Blk wr (N1) (M * 64) 28 (fl 64 O) ∧ w.heap.size ≤ N2 ∧ N2 ≠ N1 ∧ Blk wr (N2) 64 28 (F i)) (fun c _ => B - (intOf c).toNat)
    case atStart => exact ⟨0, O, rfl, Nat.zero_le _, Lib.hid (by rw [HJZ.out, hO.out]), hb, B0, hlw, B1, by omega, by omega, B3⟩
    case round =>
     clear hb B0 B1 B3 hO
     obtain ⟨j, O, rfl, hjB, hO, hb, B0, hlw, B1, hcw, hcl, B3⟩ := hrel
     by_cases hj : j < B
     · have hjI : (j : Int) < (B : Int) := by omega
       obtain ⟨bg, ng, tg, rfl, hng, BG⟩ := hg.has (by omega)
       replace BG := BG.zw hb
       go_upto_region 7 with (fail)
       have B4 := BG
       clear BG
       have lt_B0 := B0.lt
       have lt_B1 := B1.lt
       have lt_B3 := B3.lt
       have lt_B4 := B4.lt
       go_upto_region 8 with (first | rw [← z64] | (refine wpList_load_mid rfl 28 (.tmp 30) rfl _ (j * 64) rfl (bl 64 (G j)) _ (B4.rowF (r := ng) (c := 64) (by omega)) Try.underlying28 rfl (by rw [zl]; exact Try.size28) ?_) | (refine wpList_store_blk rfl 28 (.tmp 11) (.tmp 31) rfl _ 64 (G j) rfl rfl 28 _ ((Blk.new wr 64 28 (fun _ => 0))) Try.size28 ?_; try simp only [Act.put]))
       have lt_B0 := B0.lt
       have lt_B1 := B1.lt
       have lt_B3 := B3.lt
       have lt_B4 := B4.lt
       have lhb := hb.size
       obtain ⟨W4, hwo, hzQ⟩ : ∃ v : World, v = ((wr.alloc (.cells (zb 64 (fun _ => 0)) 28)).setRow (wr.heap.size) (zb 64 (G j))) ∧ Row v (w.heap.size) 70 (fdC (p : Int) m).toArray ∧ Blk v (N1) (M * 64) 28 (fl 64 O) ∧ Blk v (N2) 64 28 (F i) ∧ Blk v (bg) (ng * 64) tg (fl 64 G) ∧ Blk v (wr.heap.size) 64 28 (G j) ∧ Below w.heap.size w v := ⟨_, rfl, ((B0.alloc (.cells (zb 64 (fun _ => 0)) 28)).rowOther (by omega)), ((B1.alloc (.cells (zb 64 (fun _ => 0)) 28)).rowOther (by omega)), ((B3.alloc (.cells (zb 64 (fun _ => 0)) 28)).rowOther (by omega)), ((B4.alloc (.cells (zb 64 (fun _ => 0)) 28)).rowOther (by omega)), ((Blk.new wr 64 28 (fun _ => 0)).row (G j)), (zr (hb.alloc (by have := hb.size; simp; omega) (.cells (zb 64 (fun _ => 0)) 28)) (by omega) _)⟩
       rw [← hwo]
       clear hwo B0 B1 B3 B4 hb
       obtain ⟨B0, B1, B3, B4, B5, hb⟩ := hzQ
       obtain ⟨N3, hNN⟩ : ∃ n : Nat, n = wr.heap.size := ⟨_, rfl⟩
       rw [← hNN] at lt_B0 lt_B1 lt_B3 lt_B4 lhb B5 ⊢
       clear hNN
       have zN3_0 := lt_B0
       have zN3_1 := lt_B1
       have zN3_3 := lt_B3
       have zN3_4 := lt_B4
       have zN3 := lhb
       clear lt_B0 lt_B1 lt_B3 lt_B4 lhb
       try simp only [Act.put, pA, pB, pC]
       clear B4
       have hgd := Try.noGuard28
       have heqF := fun W => zeb (P := Try.prog) W 9998 28 5 64 (F i) (fun _ => 0) Try.underlying28 Try.underlying5 Try.size5
       have heqG := fun W => zeb (P := Try.prog) W 9998 28 5 64 (G j) (fun _ => 0) Try.underlying28 Try.underlying5 Try.size5
       cases hzF : eqN 64 (F i) (fun _ => 0) with
       | true =>
        rw [hzF] at heqF
        have HK := Lib.hid (HJK.out i j (spR p m d F G B i) (.inl hzF))
        clear hzF heqG
        go_wp2_with (first | (refine zla (.tmp 9) B3 Try.underlying28 Try.size28 ?_) | rw [← z64])
        go_roundw
        case rel => exact ⟨j + 1, O, by go_num, by omega, Lib.hid (by rw [HK.out, hO.out]), hb, B0, hlw, B1, hcw, hcl, B3⟩
        case measure => simp [intOf] <;> omega
       | false =>
        rw [hzF] at heqF
        cases hzG : eqN 64 (G j) (fun _ => 0) with
        | true =>
         rw [hzG] at heqG
         have HK := Lib.hid (HJK.out i j (spR p m d F G B i) (.inr hzG))
         clear hzF hzG
         go_wp2_with (first | (refine zla (.tmp 9) B3 Try.underlying28 Try.size28 ?_) | (refine zlg rfl 28 (.tmp 11) rfl _ rfl 64 28 _ B5 _ Try.underlying28 rfl Try.size28 ?_) | rw [← z64])
         go_roundw
         case rel => exact ⟨j + 1, O, by go_num, by omega, Lib.hid (by rw [HK.out, hO.out]), hb, B0, hlw, B1, hcw, hcl, B3⟩
         case measure => simp [intOf] <;> omega
        | false =>
         rw [hzG] at heqG
         have HK := Lib.hid (HJS.out i j (spR p m d F G B i) hzF hzG)
         clear hzF hzG
         obtain ⟨Q, hQ⟩ : ∃ Q, Q = i + j := ⟨_, rfl⟩
         have hQI : (i : Int) + (j : Int) = (Q : Int) := by omega
         have hQM : Q < M := by have := HM.out; omega
         have hQMI : (Q : Int) < (M : Int) := by omega
         have HQ := Lib.hid hQ
         clear hQ
         have HOL := Lib.hid (show ∀ k, O Q k < p from fun k => by rw [hO.out]; exact HJL.out i j Q k)
         have HK1 := Lib.hid (HAC.out i hi j hj)
         have HK2 := Lib.hid (HPL.out (O Q) (mmP p (F i) (frN p m (G j) (i % d)) m) HOL.out (HML.out i j))
         go_upto_region 9 with (first | (refine zla (.tmp 9) B3 Try.underlying28 Try.size28 ?_) | (refine zlg rfl 28 (.tmp 11) rfl _ rfl 64 28 _ B5 _ Try.underlying28 rfl Try.size28 ?_) | rw [← z64])
         clear heqF heqG hgd
         have lt_B0 : (w.heap.size) < W4.heap.size := B0.lt
         have lt_B1 : (N1) < W4.heap.size := B1.lt
         have lt_B3 : (N2) < W4.heap.size := B3.lt
         have lt_B5 : (N3) < W4.heap.size := B5.lt
         have hbase : w.heap.size ≤ W4.heap.size := hb.size
         refine zq Try.mixed (by kernel_rfl) (by kernel_rfl) (fun v => by (simp only [frL, Act.put, pA, pB, pC, Nat.reduceAdd, Nat.zero_add]; exact rfl))
          (fun L v W5 => Below w.heap.size w W5 ∧ Kx [N1] W4 W5 ∧ (∃ g, Blk W5 (N1) (M * 64) 28 (g)) ∧ (L 20 = false → Blk W5 (N1) (M * 64) 28 (fl 64 O)) ∧ (L 20 = true → Blk W5 (N1) (M * 64) 28 (fl 64 (updR O Q (addK p (O Q) (mmP p (F i) (frN p m (G j) (i % d)) m) 1)))) ∧ VF L v [some (.slice (some ⟨N1, 0, none⟩) M M), some (.int .i64 (i : Int)), some (.int .i64 (j : Int)), some (.int .i64 (Q : Int)), some (.agg (fdC (p : Int) m).toArray), some (.iface 70 (.agg (fdC (p : Int) m).toArray)), some (.slice (some ⟨N1, 0, none⟩) M M), some (.int .i64 (i : Int)), some (.int .i64 (j : Int)), some (.int .i64 (Q : Int)), some (.pointer (some ⟨N1, Q * 64, none⟩)), some (.agg (zb 64 (O Q))), some (.agg (fdC (p : Int) m).toArray), some (.iface 70 (.agg (fdC (p : Int) m).toArray)), some (.agg (zb 64 (F i))), some (.int .i64 (i : Int)), some (.agg (zb 64 (G j))), some (.agg (zb 64 (mmP p (F i) (frN p m (G j) (i % d)) m))), some (.agg (zb 64 (addK p (O Q) (mmP p (F i) (frN p m (G j) (i % d)) m) 1))), some (.pointer (some ⟨N1, Q * 64, none⟩)), none]) ?_ ?_ ?_
         · intro v hv0
           exact ⟨hb.drew, Kx.start _ _, ⟨_, B1.drew⟩, (fun _ => B1.drew), (fun h => by cases h), VF.start⟩
         · refine (.cons rfl ?_ (.cons rfl ?_ (.cons rfl ?_ (.cons rfl ?_ (.cons rfl ?_ (.cons rfl ?_ (.cons rfl ?_ (.cons rfl ?_ (.cons rfl ?_ (.cons rfl ?_ (.cons rfl ?_ (.cons rfl ?_ (.cons rfl ?_ (.cons rfl ?_ (.cons rfl ?_ (.cons rfl ?_ (.cons rfl ?_ (.cons rfl ?_ (.cons rfl ?_ (.cons rfl ?_ (.cons rfl ?_ (.nil _))))))))))))))))))))))
           all_goals intro L v W5 hd hn ⟨hB, hX, x1, q1, n1, V⟩ K hK
           · go_wp2_with fail
             exact hK _ (.slice (some ⟨N1, 0, none⟩) M M) _ (by simp only [Act.put, pA, pB, pC ]) ⟨hB, hX, x1, q1, n1, V.step 0 rfl⟩
           · go_wp2_with fail
             exact hK _ (.int .i64 (i : Int)) _ (by simp only [Act.put, pA, pB, pC ]) ⟨hB, hX, x1, q1, n1, V.step 1 rfl⟩
           · go_wp2_with fail
             exact hK _ (.int .i64 (j : Int)) _ (by simp only [Act.put, pA, pB, pC ]) ⟨hB, hX, x1, q1, n1, V.step 2 rfl⟩
           · have e1 := V.at (zdq hd 1 rfl) rfl
             have e2 := V.at (zdq hd 2 rfl) rfl
             go_wp2_with fail
             exact hK _ (.int .i64 (Q : Int)) _ (by simp only [Act.put, pA, pB, pC, e1, e2]) ⟨hB, hX, x1, q1, n1, V.step 3 rfl⟩
           · refine wp_load_rowv 70 _ rfl _ rfl 70 _ (B0.kx hX (by simp <;> omega)) _ Try.underlying70 rfl 65 Try.size70 (by simp [fdC_len]) ?_
             exact hK _ _ _ rfl ⟨hB, hX, x1, q1, n1, V.step 4 rfl⟩
           · have e4 := V.at (zdq hd 4 rfl) rfl
             go_wp2_with fail
             exact hK _ (.iface 70 (.agg (fdC (p : Int) m).toArray)) _ (by simp only [Act.put, pA, pB, pC, e4]) ⟨hB, hX, x1, q1, n1, V.step 5 rfl⟩
           · go_wp2_with fail
             exact hK _ (.slice (some ⟨N1, 0, none⟩) M M) _ (by simp only [Act.put, pA, pB, pC ]) ⟨hB, hX, x1, q1, n1, V.step 6 rfl⟩
           · go_wp2_with fail
             exact hK _ (.int .i64 (i : Int)) _ (by simp only [Act.put, pA, pB, pC ]) ⟨hB, hX, x1, q1, n1, V.step 7 rfl⟩
           · go_wp2_with fail
             exact hK _ (.int .i64 (j : Int)) _ (by simp only [Act.put, pA, pB, pC ]) ⟨hB, hX, x1, q1, n1, V.step 8 rfl⟩
           · have e7 := V.at (zdq hd 7 rfl) rfl
             have e8 := V.at (zdq hd 8 rfl) rfl
             go_wp2_with fail
             exact hK _ (.int .i64 (Q : Int)) _ (by simp only [Act.put, pA, pB, pC, e7, e8]) ⟨hB, hX, x1, q1, n1, V.step 9 rfl⟩
           · have e6 := V.at (zdq hd 6 rfl) rfl
             have e9 := V.at (zdq hd 9 rfl) rfl
             go_wp2_with fail
             exact hK _ (.pointer (some ⟨N1, Q * 64, none⟩)) _ (by simp only [Act.put, pA, pB, pC, e6, e9]) ⟨hB, hX, x1, q1, n1, V.step 10 rfl⟩
           · have e10 := V.at (zdq hd 10 rfl) rfl
             have s1 := q1 (by
              cases hL : L 20 with
              | false => rfl
              | true => exact absurd rfl (hn 20 _ rfl hL ⟨11, .phase⟩ (by simp) rfl))
             refine wp_load_mid 28 _ rfl _ (Q * 64) e10 _ _ ((s1).rowF (r := M) (c := 64) (by omega)) Try.underlying28 rfl (by rw [zl]; exact Try.size28) ?_
             exact hK _ _ _ rfl ⟨hB, hX, x1, q1, n1, V.step 11 rfl⟩
           · refine wp_load_rowv 70 _ rfl _ rfl 70 _ (B0.kx hX (by simp <;> omega)) _ Try.underlying70 rfl 65 Try.size70 (by simp [fdC_len]) ?_
             exact hK _ _ _ rfl ⟨hB, hX, x1, q1, n1, V.step 12 rfl⟩
           · have e12 := V.at (zdq hd 12 rfl) rfl
             go_wp2_with fail
             exact hK _ (.iface 70 (.agg (fdC (p : Int) m).toArray)) _ (by simp only [Act.put, pA, pB, pC, e12]) ⟨hB, hX, x1, q1, n1, V.step 13 rfl⟩
           · refine wp_load_any 28 _ rfl _ rfl 64 28 _ (B3.kx hX (by simp <;> omega)) _ Try.underlying28 rfl Try.size28 ?_
             exact hK _ _ _ rfl ⟨hB, hX, x1, q1, n1, V.step 14 rfl⟩
           · go_wp2_with fail
             exact hK _ (.int .i64 (i : Int)) _ (by simp only [Act.put, pA, pB, pC ]) ⟨hB, hX, x1, q1, n1, V.step 15 rfl⟩
           · refine wp_load_any 28 _ rfl _ rfl 64 28 _ (B5.kx hX (by simp <;> omega)) _ Try.underlying28 rfl Try.size28 ?_
             exact hK _ _ _ rfl ⟨hB, hX, x1, q1, n1, V.step 16 rfl⟩
           · have e13 := V.at (zdq hd 13 rfl) rfl
             have e14 := V.at (zdq hd 14 rfl) rfl
             have e15 := V.at (zdq hd 15 rfl) rfl
             have e16 := V.at (zdq hd 16 rfl) rfl
             go_wp2_with (go_at_call 209; refine (HK1.out _).mono ?_; rintro e wy ⟨rfl, hy⟩)
             exact hK _ (.agg (zb 64 (mmP p (F i) (frN p m (G j) (i % d)) m))) _ (by simp only [Act.put, pA, pB, pC, e13, e14, e15, e16]) ⟨hB.trans (hy.mono hB.size), hX.below hy, (let ⟨g, h⟩ := x1; ⟨g, h.zw hy⟩), (fun h => (q1 h).below hy (q1 h).lt), (fun h => (n1 h).below hy (n1 h).lt), V.step 17 rfl⟩
           · have e5 := V.at (zdq hd 5 rfl) rfl
             have e11 := V.at (zdq hd 11 rfl) rfl
             have e17 := V.at (zdq hd 17 rfl) rfl
             go_wp2_with (go_at_call 210; refine (HK2.out _).mono ?_; rintro e wy ⟨rfl, hy⟩)
             exact hK _ (.agg (zb 64 (addK p (O Q) (mmP p (F i) (frN p m (G j) (i % d)) m) 1))) _ (by simp only [Act.put, pA, pB, pC, e5, e11, e17]) ⟨hB.trans (hy.mono hB.size), hX.below hy, (let ⟨g, h⟩ := x1; ⟨g, h.zw hy⟩), (fun h => (q1 h).below hy (q1 h).lt), (fun h => (n1 h).below hy (n1 h).lt), V.step 18 rfl⟩
           · have e0 := V.at (zdq hd 0 rfl) rfl
             have e3 := V.at (zdq hd 3 rfl) rfl
             go_wp2_with fail
             exact hK _ (.pointer (some ⟨N1, Q * 64, none⟩)) _ (by simp only [Act.put, pA, pB, pC, e0, e3]) ⟨hB, hX, x1, q1, n1, V.step 19 rfl⟩
           · have e19 := V.at (zdq hd 19 rfl) rfl
             have e18 := V.at (zdq hd 18 rfl) rfl
             obtain ⟨gz, hk, hg⟩ : ∃ gz, Blk W5 (N1) (M * 64) 28 (fl 64 gz) ∧ updR gz (Q) (addK p (O Q) (mmP p (F i) (frN p m (G j) (i % d)) m) 1) = updR O (Q) (addK p (O Q) (mmP p (F i) (frN p m (G j) (i % d)) m) 1) := by
              cases hL : L 20 with
              | false => exact ⟨_, q1 hL, rfl⟩
              | true => exact ⟨_, n1 hL, updR_twice _ _ _⟩
             refine wp_store_rowF 28 _ _ rfl _ (Q) 64 M (addK p (O Q) (mmP p (F i) (frN p m (G j) (i % d)) m) 1) e19 e18 28 gz hk (by omega) (by decide) Try.size28 ?_
             rw [hg]
             exact hK _ undef _ rfl ⟨zr hB (by omega) _, hX.row (by simp) _, ⟨_, hk.row _⟩, (fun h => absurd h (by simp [setL])), (fun _ => hk.row _), V.skip 20 rfl⟩
         · intro L v W5 hL ⟨hB, hX, x1, q1, n1, V⟩
           have r1 := n1 (hL 20 (by decide))
           have e0 := V.at (hL 0 (by decide)) rfl
           have e1 := V.at (hL 1 (by decide)) rfl
           have e2 := V.at (hL 2 (by decide)) rfl
           have e3 := V.at (hL 3 (by decide)) rfl
           have e4 := V.at (hL 4 (by decide)) rfl
           have e5 := V.at (hL 5 (by decide)) rfl
           have e6 := V.at (hL 6 (by decide)) rfl
           have e7 := V.at (hL 7 (by decide)) rfl
           have e8 := V.at (hL 8 (by decide)) rfl
           have e9 := V.at (hL 9 (by decide)) rfl
           have e10 := V.at (hL 10 (by decide)) rfl
           have e11 := V.at (hL 11 (by decide)) rfl
           have e12 := V.at (hL 12 (by decide)) rfl
           have e13 := V.at (hL 13 (by decide)) rfl
           have e14 := V.at (hL 14 (by decide)) rfl
           have e15 := V.at (hL 15 (by decide)) rfl
           have e16 := V.at (hL 16 (by decide)) rfl
           have e17 := V.at (hL 17 (by decide)) rfl
           have e18 := V.at (hL 18 (by decide)) rfl
           have e19 := V.at (hL 19 (by decide)) rfl
           clear hL x1 q1 n1 V
           replace B0 := B0.kx hX (by simp <;> omega)
           replace B3 := B3.kx hX (by simp <;> omega)
           replace B5 := B5.kx hX (by simp <;> omega)
           clear hX
           simp only [Exit.then, e0, e1, e2, e3, e4, e5, e6, e7, e8, e9, e10, e11, e12, e13, e14, e15, e16, e17, e18, e19]
           clear e0 e1 e2 e3 e4 e5 e6 e7 e8 e9 e10 e11 e12 e13 e14 e15 e16 e17 e18 e19
           replace B1 := r1
           clear r1
           replace hb := hB
           clear hB
           clear hbase lt_B0 lt_B1 lt_B3 lt_B5
           go_wp2_with fail
           go_roundw
           case rel => exact ⟨j + 1, _, by go_num, by omega, Lib.hid (by rw [HK.out, ← hO.out, ← HQ.out]), hb, B0, hlw, B1, hcw, hcl, B3⟩
           case measure => simp [intOf] <;> omega
     · have hjI : ¬ (j : Int) < (B : Int) := by omega
       obtain rfl : j = B := by omega
       go_wp2_with fail
       go_roundw
       case rel => exact ⟨i + 1, O, by go_num, by omega, Lib.hid (by rw [HS.out, hO.out]), hb, B0, hlw, B1⟩
       case measure => simp [intOf] <;> omega
  · have hiI : ¬ (i : Int) < (A : Int) := by omega
    obtain rfl : i = A := by omega
    go_upto_region 12 with (fail)
    go_wp2_with (go_at_call 126; refine (HWZ.out _ _ _ B1).mono ?_; rintro e W9 ⟨rfl, hW9⟩; replace B1 := B1.zw hW9; replace hb := hb.trans (hW9.mono hb.size))
    go_ret
    exact ⟨_, by rw [← hO.out]; rfl, by omega, by rw [← hO.out]; exact B1, hb⟩
set_option maxRecDepth 100000 in
set_option maxHeartbeats 1600000 in
theorem skTimes_any (p : Nat) (m : Nat → Nat) (F G : Nat → Nat → Nat) (w : World) (hpr : p = 2 ∨ p = 3 ∨ p = 5 ∨ p = 7) (lm : ∀ k, k < 64 → m k < p) (d : Nat) (hd : deg m = (d : Int)) (hd1 : 1 ≤ d) (hd9 : d ≤ 9) (lF : ∀ i, i < 8 → ∀ k, k < 64 → F i k < p) (lG : ∀ i, i < 8 → rsd p m (G i)) (hs : skD F + skD G ≤ 7) :
 Calls Try.prog 111 #[.agg (zb 512 (fl 64 F)), .agg (fdC (p : Int) m).toArray, .agg (zb 512 (fl 64 G))] w fun e w' => e = .returned (.agg (zb 512 (fl 64 (tmP p m d F G)))) ∧ Below w.heap.size w w' := by
 have p0 : 0 < p := by omega
 have h0 : 0 ≤ deg m := by omega
 have h9 : deg m ≤ 9 := by omega
 obtain ⟨S, hS⟩ : ∃ S, S = spR p m d F G 8 8 := ⟨_, rfl⟩
 obtain ⟨q, hq⟩ : ∃ q, q = (skN S 16 + 1).toNat := ⟨_, rfl⟩
 have hq16 : q ≤ 16 := by have := (skN_bounds S 16).2; omega
 have HRW := Lib.hid (show ∀ i, i < 8 → q ≤ i → ∀ j, j < 64 → (fun _ _ => 0 : Nat → Nat → Nat) i j = S i j from fun i hi hqi j hj => by
  have := (skN_bounds S 16).1
  exact (eqN_iff.1 (skN_spec S 16 i (by omega) (by omega)) j hj).symm)
 have HSP := Lib.hid (show ∀ W (bf bg : Nat), Blk W bf 512 46 (fl 64 F) → Blk W bg 512 46 (fl 64 G) → Calls Try.prog 145 #[.agg (fdC (p : Int) m).toArray, .slice (some ⟨bf, 0, none⟩) 8 8, .slice (some ⟨bg, 0, none⟩) 8 8] W fun e w' => ∃ c, e = .returned (.slice (some ⟨c, 0, none⟩) q 16) ∧ W.heap.size ≤ c ∧ Blk w' c (16 * 64) 28 (fl 64 S) ∧ Below W.heap.size W w' from fun W bf bg h1 h2 => by
  rw [hq, hS]
  exact skewProduct_any p m F G 8 8 8 8 _ _ W hpr lm d hd hd1 hd9 (by omega) (by omega) lF lG (SlR.of8 h1) (SlR.of8 h2))
 have HP := Lib.hid (show zb 512 (fl 64 S) = zb 512 (fl 64 (tmP p m d F G)) from zbc (fl_congr (n := 8) (c := 64) (F := S) (G := tmP p m d F G) (by decide) (fun i hi j hj => by rw [hS]; exact spR_tmP hpr lm h0 h9 i j hj)))
 clear hS hq lF lG hd
 go_enter Try.func111, Try.ntmps111
 go_upto_region 1 with (fail)
 rw [← zero512]
 obtain ⟨W1, hwo⟩ : ∃ v : World, v = ((((w.alloc (.cells (zb 512 (fl 64 F)) 46)).alloc (.cells (fdC (p : Int) m).toArray 70)).alloc (.cells (zb 512 (fl 64 G)) 46)).alloc (.cells (zb 512 (fl 64 (fun _ _ => 0))) 46)) := ⟨_, rfl⟩
 have B0 : Blk W1 (w.heap.size) 512 46 (fl 64 F) := by subst hwo; have := ((((Blk.new w 512 46 (fl 64 F)).alloc (.cells (fdC (p : Int) m).toArray 70)).alloc (.cells (zb 512 (fl 64 G)) 46)).alloc (.cells (zb 512 (fl 64 (fun _ _ => 0))) 46)); simpa using this
 have B1 : Row W1 (w.heap.size + 1) 70 (fdC (p : Int) m).toArray := by subst hwo; have := (((Row.new (w.alloc (.cells (zb 512 (fl 64 F)) 46)) 70 (fdC (p : Int) m).toArray).alloc (.cells (zb 512 (fl 64 G)) 46)).alloc (.cells (zb 512 (fl 64 (fun _ _ => 0))) 46)); simpa using this
 have B2 : Blk W1 (w.heap.size + 1 + 1) 512 46 (fl 64 G) := by subst hwo; have := ((Blk.new ((w.alloc (.cells (zb 512 (fl 64 F)) 46)).alloc (.cells (fdC (p : Int) m).toArray 70)) 512 46 (fl 64 G)).alloc (.cells (zb 512 (fl 64 (fun _ _ => 0))) 46)); simpa using this
 have B3 : Blk W1 (w.heap.size + 1 + 1 + 1) 512 46 (fl 64 (fun _ _ => 0)) := by subst hwo; have := (Blk.new (((w.alloc (.cells (zb 512 (fl 64 F)) 46)).alloc (.cells (fdC (p : Int) m).toArray 70)).alloc (.cells (zb 512 (fl 64 G)) 46)) 512 46 (fl 64 (fun _ _ => 0))); simpa using this
 have hb : Below w.heap.size w W1 := by subst hwo; exact (((((Below.refl _ _).alloc (Nat.le_refl _) _).alloc (by simp) _).alloc (by simp; omega) _).alloc (by simp; omega) _)
 rw [← hwo]
 clear hwo
 go_upto_region 2 with (first | rw [← z64] | rw [← zero512])
 have lt_B0 := B0.lt
 have lt_B1 := B1.lt
 have lt_B2 := B2.lt
 have lt_B3 := B3.lt
 have lhb := hb.size
 obtain ⟨W2, hwo, hzQ⟩ : ∃ v : World, v = (W1.alloc (.cells (zb 512 (fl 64 (fun _ _ => 0))) 46)) ∧ Blk v (w.heap.size) 512 46 (fl 64 F) ∧ Row v (w.heap.size + 1) 70 (fdC (p : Int) m).toArray ∧ Blk v (w.heap.size + 1 + 1) 512 46 (fl 64 G) ∧ Blk v (w.heap.size + 1 + 1 + 1) 512 46 (fl 64 (fun _ _ => 0)) ∧ Blk v (W1.heap.size) 512 46 (fl 64 (fun _ _ => 0)) ∧ Below w.heap.size w v := ⟨_, rfl, (B0.alloc (.cells (zb 512 (fl 64 (fun _ _ => 0))) 46)), (B1.alloc (.cells (zb 512 (fl 64 (fun _ _ => 0))) 46)), (B2.alloc (.cells (zb 512 (fl 64 (fun _ _ => 0))) 46)), (B3.alloc (.cells (zb 512 (fl 64 (fun _ _ => 0))) 46)), (Blk.new W1 512 46 (fl 64 (fun _ _ => 0))), (hb.alloc (by have := hb.size; simp; omega) (.cells (zb 512 (fl 64 (fun _ _ => 0))) 46))⟩
 rw [← hwo]
 clear hwo B0 B1 B2 B3 hb
 obtain ⟨B0, B1, B2, B3, B4, hb⟩ := hzQ
 obtain ⟨N1, hNN⟩ : ∃ n : Nat, n = W1.heap.size := ⟨_, rfl⟩
 rw [← hNN] at lt_B0 lt_B1 lt_B2 lt_B3 lhb B4 ⊢
 clear hNN
 have zN1_0 := lt_B0
 have zN1_1 := lt_B1
 have zN1_2 := lt_B2
 have zN1_3 := lt_B3
 have zN1 := lhb
 clear lt_B0 lt_B1 lt_B2 lt_B3 lhb
 try simp only [Act.put, pA, pB, pC]
 have lt_B0 := B0.lt
 have lt_B1 := B1.lt
 have lt_B2 := B2.lt
 have lt_B3 := B3.lt
 have lt_B4 := B4.lt
 have hbase := hb.size
 refine zq Try.mixed (by kernel_rfl) (by kernel_rfl) (fun v => by (simp only [frL, Act.put, pA, pB, pC, Nat.reduceAdd, Nat.zero_add]; exact rfl))
  (fun L v wx => Below w.heap.size w wx ∧ W2.heap.size ≤ wx.heap.size ∧ Blk wx (w.heap.size) 512 46 (fl 64 (F)) ∧ Row wx (w.heap.size + 1) 70 (fdC (p : Int) m).toArray ∧ Blk wx (w.heap.size + 1 + 1) 512 46 (fl 64 (G)) ∧ Blk wx (w.heap.size + 1 + 1 + 1) 512 46 (fl 64 (fun _ _ => 0)) ∧ (∃ Y, Blk wx (N1) 512 46 (fl 64 (Y)) ∧ (L 5 = false → Y = fun _ _ => 0) ∧ (L 5 = true → Y = S)) ∧ (L 0 = true → v 0 = (.slice (some ⟨N1, 0, none⟩) 8 8)) ∧ (L 1 = true → v 1 = (.agg (fdC (p : Int) m).toArray)) ∧ (L 2 = true → v 2 = (.slice (some ⟨w.heap.size, 0, none⟩) 8 8)) ∧ (L 3 = true → v 3 = (.slice (some ⟨w.heap.size + 1 + 1, 0, none⟩) 8 8)) ∧ (L 4 = true → (∃ c, v 4 = .slice (some ⟨c, 0, none⟩) q 16 ∧ W2.heap.size ≤ c ∧ Blk wx c (16 * 64) 28 (fl 64 S)))) ?_ ?_ ?_
 · intro v hv0
   exact ⟨hb.drew, Nat.le_refl _, B0.drew, B1.drew, B2.drew, B3.drew, ⟨_, B4.drew, (fun _ => rfl), (fun h => by cases h)⟩, (fun h => by cases h), (fun h => by cases h), (fun h => by cases h), (fun h => by cases h), (fun h => by cases h)⟩
 · refine (.cons rfl ?_ (.cons rfl ?_ (.cons rfl ?_ (.cons rfl ?_ (.cons rfl ?_ (.cons rfl ?_ (.nil _)))))))
   · intro L v wx hd hn ⟨hB, hz, s0, s1, s2, s3, ⟨Y, s4, y0, y1⟩, h0', h1', h2', h3', h4'⟩ K hK
     go_wp2_with fail
     exact hK _ (.slice (some ⟨N1, 0, none⟩) 8 8) _ (by simp only [Act.put, pA, pB, pC]) ⟨hB, hz, s0, s1, s2, s3, ⟨Y, s4, fun h => y0 h, fun h => y1 h⟩, (fun _ => rfl), h1', h2', h3', h4'⟩
   · intro L v wx hd hn ⟨hB, hz, s0, s1, s2, s3, ⟨Y, s4, y0, y1⟩, h0', h1', h2', h3', h4'⟩ K hK
     refine wp_load_rowv 70 _ rfl _ rfl 70 _ s1 _ Try.underlying70 rfl 65 Try.size70 (by simp [fdC_len]) ?_
     exact hK _ _ _ rfl ⟨hB, hz, s0, s1, s2, s3, ⟨Y, s4, fun h => y0 h, fun h => y1 h⟩, h0', (fun _ => rfl), h2', h3', h4'⟩
   · intro L v wx hd hn ⟨hB, hz, s0, s1, s2, s3, ⟨Y, s4, y0, y1⟩, h0', h1', h2', h3', h4'⟩ K hK
     go_wp2_with fail
     exact hK _ (.slice (some ⟨w.heap.size, 0, none⟩) 8 8) _ (by simp only [Act.put, pA, pB, pC]) ⟨hB, hz, s0, s1, s2, s3, ⟨Y, s4, fun h => y0 h, fun h => y1 h⟩, h0', h1', (fun _ => rfl), h3', h4'⟩
   · intro L v wx hd hn ⟨hB, hz, s0, s1, s2, s3, ⟨Y, s4, y0, y1⟩, h0', h1', h2', h3', h4'⟩ K hK
     go_wp2_with fail
     exact hK _ (.slice (some ⟨w.heap.size + 1 + 1, 0, none⟩) 8 8) _ (by simp only [Act.put, pA, pB, pC]) ⟨hB, hz, s0, s1, s2, s3, ⟨Y, s4, fun h => y0 h, fun h => y1 h⟩, h0', h1', h2', (fun _ => rfl), h4'⟩
   · intro L v wx hd hn ⟨hB, hz, s0, s1, s2, s3, ⟨Y, s4, y0, y1⟩, h0', h1', h2', h3', h4'⟩ K hK
     have e1 := h1' (zdq hd 1 rfl)
     have e2 := h2' (zdq hd 2 rfl)
     have e3 := h3' (zdq hd 3 rfl)
     go_wp2_with (go_at_call 145; refine (HSP.out _ _ _ s0 s2).mono ?_; rintro e wy ⟨c, rfl, hc, sc, hy⟩)
     exact hK _ (.slice (some ⟨c, 0, none⟩) q 16) _ (by simp only [Act.put, pA, pB, pC, e1, e2, e3]) ⟨hB.trans (hy.mono hB.size), Nat.le_trans hz hy.size, s0.zw hy, s1.zw hy, s2.zw hy, s3.zw hy, ⟨Y, s4.zw hy, fun h => y0 h, fun h => y1 h⟩, h0', h1', h2', h3', fun _ => ⟨c, rfl, by omega, sc⟩⟩
   · intro L v wx hd hn ⟨hB, hz, s0, s1, s2, s3, ⟨Y, s4, y0, y1⟩, h0', h1', h2', h3', h4'⟩ K hK
     have e0 := h0' (zdq hd 0 rfl)
     obtain ⟨c, e4, hcw, sc⟩ := h4' (zdq hd 4 rfl)
     have hY : ∀ i, i < 8 → q ≤ i → ∀ j, j < 64 → Y i j = S i j := by
      cases hL : L 5 with
      | false => rw [y0 hL]; exact HRW.out
      | true => rw [y1 hL]; exact fun _ _ _ _ _ => rfl
     refine wp_copy_rows (.tmp 8) (.tmp 12) 30 30 rfl 28 Try.underlying30 Try.size28 _ c 8 8 q 16 16 46 28 Y S e0 e4 s4 sc hq16 hY ?_
     exact hK _ _ _ rfl ⟨zr hB (by omega) _, by simpa [World.setRow] using hz, s0.rowOther (by omega), s1.rowOther (by omega), s2.rowOther (by omega), s3.rowOther (by omega), ⟨S, s4.row _, fun h => absurd h (by simp [setL]), fun _ => rfl⟩, h0', h1', h2', h3', fun h => let ⟨c, a1, a2, a3⟩ := h4' h; ⟨c, a1, a2, a3.rowOther (by omega)⟩⟩
 · intro L v wx hL ⟨hB, hz, s0, s1, s2, s3, ⟨Y, s4, y0, y1⟩, h0', h1', h2', h3', h4'⟩
   have e0 := h0' (hL 0 (by decide))
   rw [y1 (hL 5 (by decide))] at s4
   clear hL h0' h1' h2' h3' h4' y0 y1 B0 B1 B2 B3 B4 hb
   have hb := hB
   have B3 := s3
   have B4 := s4
   clear s0 s1 s2 s3 s4 hB
   go_upto_region 3 with (fail)
   have lt_B3 := B3.lt
   have lt_B4 := B4.lt
   go_wp2_with (first | rw [← z64] | rw [← zero512] | (refine zla (.tmp 7) B4 Try.underlying46 Try.size46 ?_) | (refine zsr (.tmp 6) (.tmp 14) (fl 64 S) B3 Try.size46 ?_; try simp only [Act.put]))
   obtain ⟨W3, hwo, hzQ⟩ : ∃ v : World, v = (wx.setRow (w.heap.size + 1 + 1 + 1) (zb 512 (fl 64 S))) ∧ Blk v (w.heap.size + 1 + 1 + 1) 512 46 (fl 64 S) ∧ Blk v (N1) 512 46 (fl 64 S) ∧ Below w.heap.size w v := ⟨_, rfl, (B3.row (fl 64 S)), (B4.rowOther (by omega)), (zr hb (by omega) _)⟩
   rw [← hwo]
   clear hwo B3 B4 hb
   obtain ⟨B3, B4, hb⟩ := hzQ
   try simp only [Act.put, pA, pB, pC]
   refine bodyPost_ret (results_any rfl _ _ _ 512 _ _ rfl B3 _ Try.underlying46 rfl Try.size46) rfl ⟨by rw [HP.out], hb⟩
end Go.Proofs.Ytelgefgphhebnaa
end
section
namespace Go.Proofs.Ytelgefgphhebnaa
open Go Go.RowKit
set_option linter.unusedVariables false
set_option linter.unusedSimpArgs false
attribute [local irreducible] deg irB monUp monB okA frN mmP
theorem flV_fld {p : Int} {m : Nat → Nat} (h1 : flV p m = true) : ∃ n : Nat, p = (n : Int) ∧ (n = 2 ∨ n = 3 ∨ n = 5 ∨ n = 7) ∧ (∀ k, k < 64 → m k < n) ∧ ∃ d, mon m d ∧ 1 ≤ d ∧ d ≤ 4 := by
 have ho : okA p m = true := by
  cases ho : okA p m with
  | true => rfl
  | false => rw [flV_1 ho] at h1; cases h1
 have hm : monUp 4 m = true := by
  cases hm : monUp 4 m with
  | true => rfl
  | false => rw [flV_2 hm] at h1; cases h1
 obtain ⟨n, hn, hpr, hl⟩ := okA_nat ho
 obtain ⟨d, a1, a2, a3⟩ := mon_up hm
 exact ⟨n, hn, hpr, hl, d, a1, a2, by omega⟩
end Go.Proofs.Ytelgefgphhebnaa
end
section
namespace Go.Proofs.Ytelgefgphhebnaa
open Go Go.RowKit
set_option linter.unusedVariables false
set_option linter.unusedSimpArgs false
theorem Try.elemSl : (Try.prog.info? 30).map (fun i => (i.size, i.zero.isSome)) = some (1, true) := by kernel_rfl
section
variable {P : Program}
theorem wpList_build_one {ops : Array Oper} {rest : List Oper} {o : Oper} {a : Act} {w : World} {Q : Exit → Act → World → Prop} (hg : o.guard = none) (t : TypeId) (parts : Array (Nat × Operand)) (v : Value) (hv : v.cells = #[v])
 (ho : o.op = .buildSlice t 1 parts) (e : TypeId) (hu : P.underlying t = some (.slice e)) (hie : (P.info? e).map (fun i => (i.size, i.zero.isSome)) = some (1, true))
 (hp : (parts.toList.map fun x => (x.1, a.eval x.2)) = [(0, v)])
 (h : ∀ w', Row w' w.heap.size e [v].toArray → Below w.heap.size w w' → wpList P ops Q rest (a.put o.dst (.slice (some ⟨w.heap.size, 0, none⟩) 1 1)) w') : wpList P ops Q (o :: rest) a w := by
 cases hi : P.info? e with
 | none => simp [hi] at hie
 | some ie =>
  simp only [hi, Option.map_some, Option.some.injEq, Prod.mk.injEq] at hie
  obtain ⟨hs, hz⟩ := hie
  obtain ⟨z, hzz⟩ := Option.isSome_iff_exists.1 hz
  refine wpList_buildSlice hg t e 1 parts ho [v].toArray ie z hu hi hzz (by rw [hs]; omega) (by rw [hs]; omega) ?_ (h _ (Row.new w e [v].toArray) (zal _ _))
  rw [Array.toList_map, hp, hs]
  have e1 : (Array.range (1 * 1)).map (z.cells[· % z.cells.size]!) = #[z.cells[0 % z.cells.size]!] := by
   apply Array.toList_inj.1
   rw [Array.toList_map, Array.toList_range]
   rfl
  rw [e1]
  simp [Instr.fill, hv]
end
theorem rs_good {p d : Nat} {m : Nat → Nat} {L : List (Nat → Nat)} (hd : deg m = (d : Int)) (h : rsA (p : Int) m L = true) : ∀ z, z ∈ L → (∀ k, k < 64 → z k < p) ∧ deg z < (d : Int) := fun z hz => by
 have := rsA_mem h hz
 unfold rsB at this
 simp only [Bool.and_eq_true, decide_eq_true_eq] at this
 exact ⟨fun k hk => by have := okA_lt this.1 hk; omega, by rw [← hd]; exact this.2⟩
theorem ck_fld {p : Int} {m : Nat → Nat} {Ls : List (List (Nat → Nat))} (h : ckR p m Ls = 0) : ∃ n d : Nat, p = (n : Int) ∧ (n = 2 ∨ n = 3 ∨ n = 5 ∨ n = 7) ∧ (∀ k, k < 64 → m k < n) ∧ mon m d ∧ 1 ≤ d ∧ d ≤ 4 ∧ deg m = (d : Int) ∧ ∀ L, L ∈ Ls → ∀ z, z ∈ L → (∀ k, k < 64 → z k < n) ∧ deg z < (d : Int) := by
 obtain ⟨h1, h2⟩ := ckR_zero h
 obtain ⟨n, rfl, hpr, lm, d, hm, d1, d4⟩ := flV_fld h1
 exact ⟨n, d, rfl, hpr, lm, hm, d1, d4, hm.1, fun L hL => rs_good hm.1 (h2 L hL)⟩
attribute [local irreducible] deg flV
end Go.Proofs.Ytelgefgphhebnaa
end
section
namespace Go.Proofs.Ytelgefgphhebnaa
open Rg
set_option linter.unusedVariables false
theorem pw_pred {R : Type} [Rg R] (a : R) : ∀ {n : Nat}, 1 ≤ n → pw a n = a * pw a (n - 1)
 | n + 1, _ => rfl
section
variable {p : Nat} {m : Nat → Nat} {d : Nat} (hp : p = 2 ∨ p = 3 ∨ p = 5 ∨ p = 7) (lm : ∀ k, k < 64 → m k < p) (hmon : mon m d) (hi : irr p (cut m) d) (h9 : d ≤ 9)
include hp lm hmon hi h9
theorem fr_once {y : Nat → Nat} (hy : rsd p m y) : (rs (frN p m y (1 % d)) : Res p (lz m)) = pw (rs y) p := by
 have h0 : 0 ≤ deg m := by rw [hmon.1]; omega
 have h9' : deg m ≤ 9 := by rw [hmon.1]; omega
 have hd1 := hi.1
 obtain ⟨a, b⟩ := frI_ok hp lm h0 h9' hy
 by_cases h : d = 1
 · subst h
   rw [Nat.mod_self, frN_z, ← b]
   have h2 := frN_d hp lm h0 h9' hi hy
   exact cl_congr (by
    funext k
    unfold lz cut
    by_cases hk : k < 64
    · rw [if_pos hk, if_pos hk]
      have := h2 k hk
      rw [frN_s, frN_z] at this
      rw [this]
    · rw [if_neg hk, if_neg hk])
 · rw [Nat.mod_eq_of_lt (show 1 < d by omega), frN_s, frN_z]; exact b
theorem ratio_eq {y : Nat → Nat} (hy : rsd p m y) (hy0 : 0 ≤ deg y) : ∀ k, k < 64 → mmP p (frN p m y (1 % d)) (bzU p y m) m k = pmP p y (p - 1) m k := by
 have h0 : 0 ≤ deg m := by rw [hmon.1]; omega
 obtain ⟨c, e1, _⟩ := pmP_spec (k := p - 1) hp hy.1 lm h0 (by omega)
 refine rsd_eq hp lm h0 (mm_rsd hp lm h0) ⟨c, e1⟩ ?_
 rw [rs_mm hp lm h0, rs_pm hp hy.1 lm h0 (by omega), fr_once hp lm hmon hi h9 hy]
 have h1 : (pw (rs y) p : Res p (lz m)) = rs y * pw (rs y) (p - 1) := pw_pred _ (by omega)
 rw [h1, mcomm, ← massoc, inv_res hp lm hmon hi hy hy0, emul]
end
end Go.Proofs.Ytelgefgphhebnaa
end
section
namespace Go.Proofs.Ytelgefgphhebnaa
open Rg
set_option linter.unusedVariables false
theorem rs_cong {p : Nat} {m : Nat → Int} {f g : Nat → Nat} (h : ∀ k, k < 64 → f k = g k) : (rs f : Res p m) = rs g := cl_congr (by
 funext k
 unfold lz cut
 by_cases hk : k < 64
 · rw [if_pos hk, if_pos hk, h k hk]
 · rw [if_neg hk, if_neg hk])
theorem rs_oneP {p : Nat} {m : Nat → Int} : (rs oneP : Res p m) = e := cl_congr one_lz
theorem skD_at {F : Nat → Nat → Nat} {n : Nat} (h8 : n < 8) (h : 0 ≤ deg (F n)) (h2 : ∀ i, n < i → i < 8 → ∀ k, k < 64 → F i k = 0) : skD F = (n : Int) := by
 have h1 := skD_lt (F := F) (n := n + 1) (fun i hi => h2 i (by omega))
 by_cases h3 : skD F < (n : Int)
 · have h4 := eqN_iff.1 (skN_spec F 8 n h8 (by unfold skD at h3; exact h3))
   obtain ⟨k, hk, h5⟩ := deg_nonneg h
   exact absurd (h4 k hk) h5
 · omega
section
variable {p : Nat} {m : Nat → Nat} {d : Nat} (hp : p = 2 ∨ p = 3 ∨ p = 5 ∨ p = 7) (lm : ∀ k, k < 64 → m k < p) (hmon : mon m d) (hi : irr p (cut m) d) (h9 : d ≤ 9)
include hp lm hmon hi h9
theorem zero_of_rs {a : Nat → Nat} (ha : rsd p m a) (h : (rs a : Res p (lz m)) = o) : deg a < 0 := by
 have _u0 := hi
 have h0 : 0 ≤ deg m := by rw [hmon.1]; omega
 by_cases h1 : deg a < 0
 · exact h1
 · have h5 := rsd_eq hp lm h0 ha (zero_rsd (by omega) h0) (by rw [h, rs_zero])
   obtain ⟨k, hk, h6⟩ := deg_nonneg (x := a) (by omega)
   exact absurd (h5 k hk) h6
theorem mm_ne {a b : Nat → Nat} (ha : rsd p m a) (ha0 : 0 ≤ deg a) (hb : rsd p m b) (hb0 : 0 ≤ deg b) : 0 ≤ deg (mmP p a b m) := by
 have h0 : 0 ≤ deg m := by rw [hmon.1]; omega
 by_cases h : 0 ≤ deg (mmP p a b m)
 · exact h
 · exfalso
   have h1 : (rs (mmP p a b m) : Res p (lz m)) = o := by rw [← rs_zero]; exact rs_cong (dgz_out (by omega))
   rw [rs_mm hp lm h0] at h1
   have h2 : (rs a : Res p (lz m)) = o := by
    have h3 := inv_res hp lm hmon hi hb hb0
    have h4 : (rs a * rs b) * rs (bzU p b m) = (o : Res p (lz m)) := by rw [h1, omul]
    rw [massoc, mcomm (rs b), h3, mule] at h4
    exact h4
   have := zero_of_rs hp lm hmon hi h9 ha h2
   omega
theorem one_rsd : rsd p m oneP := by
 have _u0 := lm
 refine ⟨fun k _ => by unfold oneP; split <;> omega, ?_⟩
 have := hi.1
 rw [hmon.1, deg_one]; omega
theorem tmP_deg {F G : Nat → Nat → Nat} {a b : Nat} (hF : rsk p m F) (hG : rsk p m G) (hFa : skD F = (a : Int)) (hGb : skD G = (b : Int)) (hab : a + b ≤ 7) : skD (tmP p m d F G) = ((a + b : Nat) : Int) := by
 have h0 : 0 ≤ deg m := by rw [hmon.1]; omega
 obtain ⟨a8, fa⟩ := skN_row hFa
 obtain ⟨b8, gb⟩ := skN_row hGb
 have hd1 := hi.1
 have rb := (frN_ok hp lm h0 (by rw [hmon.1]; omega) (hG b b8) (a % d)).1
 have h2 : 0 ≤ deg (mmP p (F a) (frN p m (G b) (a % d)) m) := mm_ne hp lm hmon hi h9 (hF a a8) fa rb (frN_ne hp lm hmon hi h9 (hG b b8) gb (Nat.le_of_lt (Nat.mod_lt _ (by omega))))
 have h3 : 0 ≤ deg (tmP p m d F G (a + b)) := deg_congr0 (fun k hk => (tmP_top (by omega) hFa hGb k hk).symm) h2
 exact skD_at (by omega) h3 (fun i h _ k _ => by rw [tmP_hi hFa hGb h])
end
end Go.Proofs.Ytelgefgphhebnaa
end
section
namespace Go.Proofs.Ytelgefgphhebnaa
open Rg
set_option linter.unusedVariables false
/-- long division: T the next term, N what is left, g the degree of the divisor -/
def gdR (p : Nat) (T N : (Nat → Nat → Nat) → (Nat → Nat → Nat)) (g : Int) : Nat → (Nat → Nat → Nat) → (Nat → Nat → Nat) → (Nat → Nat → Nat) × (Nat → Nat → Nat)
 | 0, Q, F => (Q, F)
 | fu + 1, Q, F => if skD F < g then (Q, F) else gdR p T N g fu (skA p Q (T F) 1) (N F)
/-- quotient and rest from the right -/
def dq (p : Nat) (m : Nat → Nat) (d : Nat) (F G : Nat → Nat → Nat) : (Nat → Nat → Nat) × (Nat → Nat → Nat) := gdR p (fun F => dvT p m d F G) (fun F => dvF p m d F G) (skD G) 8 (fun _ _ => 0) F
def eD (p : Nat) (m : Nat → Nat) (d : Nat) : Nat → (Nat → Nat → Nat) → (Nat → Nat → Nat) → (Nat → Nat → Nat)
 | 0, A, B => A
 | n + 1, A, B => if skD B < 0 then A else eD p m d n B (dq p m d A B).2
attribute [irreducible] gdR dq eD
end Go.Proofs.Ytelgefgphhebnaa
end
section
namespace Go.Proofs.Ytelgefgphhebnaa
open Rg
set_option linter.unusedVariables false
section
variable {R : Type} [Rg R]
/-- sums -/
def su (f : Nat → R) : Nat → R
 | 0 => o
 | n + 1 => su f n + f n
theorem su_congr {f g : Nat → R} : ∀ n, (∀ i, i < n → f i = g i) → su f n = su g n
 | 0, _ => rfl
 | n + 1, h => by
  show su f n + f n = su g n + g n
  rw [su_congr n (fun i hi => h i (by omega)), h n (by omega)]
theorem su_upd {f : Nat → R} {r : Nat} {c : R} : ∀ n, r < n → su (fun i => if i = r then f i + c else f i) n = su f n + c
 | 0, h => absurd h (Nat.not_lt_zero r)
 | n + 1, h => by
  show su _ n + (if n = r then f n + c else f n) = su f n + f n + c
  by_cases e : n = r
  · subst e
    rw [if_pos rfl, su_congr n (g := f) (fun i hi => if_neg (by omega)), ← aassoc]
  · rw [if_neg e, su_upd n (by omega), aassoc, aassoc, acomm c]
theorem su_tail {f : Nat → R} {a : Nat} (h : ∀ i, a ≤ i → f i = o) : ∀ k, su f (a + k) = su f a
 | 0 => rfl
 | k + 1 => by
  show su f (a + k) + f (a + k) = su f a
  rw [h _ (by omega), addo, su_tail h k]
theorem su_add {f g : Nat → R} : ∀ n, su (fun i => f i + g i) n = su f n + su g n
 | 0 => (addo o).symm
 | n + 1 => by
  show su (fun i => f i + g i) n + (f n + g n) = su f n + f n + (su g n + g n)
  rw [su_add n, aassoc, aassoc, alcomm (su g n)]
end
section
variable {p : Nat} {m : Nat → Nat} {d : Nat} (hp : p = 2 ∨ p = 3 ∨ p = 5 ∨ p = 7) (lm : ∀ k, k < 64 → m k < p) (hmon : mon m d) (hi : irr p (cut m) d) (h9 : d ≤ 9)
include hp lm hmon hi h9
theorem fr_d {x : Nat → Nat} (hx : rsd p m x) : fr' p d (rs x : Res p (lz m)) = rs x := by
 have h0 : 0 ≤ deg m := by rw [hmon.1]; omega
 obtain ⟨a, b⟩ := frN_ok hp lm h0 (by rw [hmon.1]; omega) hx d
 rw [← b]
 exact rs_cong (frN_d hp lm h0 (by rw [hmon.1]; omega) hi hx)
theorem fr_mod {x : Nat → Nat} (hx : rsd p m x) (i : Nat) : fr' p i (rs x : Res p (lz m)) = fr' p (i % d) (rs x) := by
 have key : ∀ j r, fr' p (d * j + r) (rs x : Res p (lz m)) = fr' p r (rs x) := by
  intro j
  induction j with
  | zero => intro r; rw [Nat.mul_zero, Nat.zero_add]
  | succ j ih =>
   intro r
   rw [show d * (j + 1) + r = d + (d * j + r) by rw [Nat.mul_succ]; omega, fr_add, fr_d hp lm hmon hi h9 hx]; exact ih r
 have := key (i / d) (i % d)
 rwa [Nat.div_add_mod] at this
theorem rs_frN {x : Nat → Nat} (hx : rsd p m x) (i : Nat) : (rs (frN p m x (i % d)) : Res p (lz m)) = fr' p i (rs x) := by
 rw [(frN_ok hp lm (by rw [hmon.1]; omega) (by rw [hmon.1]; omega) hx (i % d)).2, ← fr_mod hp lm hmon hi h9 hx i]
/-- values as sums -/
theorem vlR_rs {F : Nat → Nat → Nat} {x : Nat → Nat} (hx : rsd p m x) : ∀ n, (rs (vlR p m d F x n) : Res p (lz m)) = su (fun i => rs (F i) * fr' p i (rs x)) n
 | 0 => by rw [vlR_z, rs_zero]; rfl
 | n + 1 => by
  rw [vlR_s, rs_add (by omega), vlR_rs hx n, rs_mm hp lm (by rw [hmon.1]; omega), rs_frN hp lm hmon hi h9 hx]; rfl
end
/-- the value of rows at an element -/
def vR (p : Nat) (m : Nat → Nat) (F : Nat → Nat → Nat) (X : Res p (lz m)) : Res p (lz m) := su (fun i => rs (F i) * fr' p i X) 8
section
variable {p : Nat} {m : Nat → Nat} {d : Nat} (hp : p = 2 ∨ p = 3 ∨ p = 5 ∨ p = 7) (lm : ∀ k, k < 64 → m k < p) (hmon : mon m d) (hi : irr p (cut m) d) (h9 : d ≤ 9)
include hp lm hmon hi h9
theorem vR_add (F : Nat → Nat → Nat) (X Y : Res p (lz m)) : vR p m F (X + Y) = vR p m F X + vR p m F Y := by
 have _u0 := lm
 have _u1 := hmon
 have _u2 := hi
 have _u3 := h9
 unfold vR
 rw [← su_add]
 exact su_congr 8 fun i _ => by rw [fr_sum hp res_char, madd]
theorem vR_o (F : Nat → Nat → Nat) : vR p m F o = o := by
 have h := vR_add hp lm hmon hi h9 F (o : Res p (lz m)) o
 rw [addo] at h
 exact cancel (a := vR p m F o) (by rw [← h, addo])
theorem vR_nm (F : Nat → Nat → Nat) (X : Res p (lz m)) : ∀ c, vR p m F (nm c X) = nm c (vR p m F X)
 | 0 => vR_o hp lm hmon hi h9 F
 | c + 1 => by
  show vR p m F (nm c X + X) = nm c (vR p m F X) + vR p m F X
  rw [vR_add hp lm hmon hi h9, vR_nm F X c]
theorem vR_updR {O : Nat → Nat → Nat} {t : Nat → Nat} {r : Nat} (hr : r < 8) (X : Res p (lz m)) : vR p m (updR O r (addK p (O r) t 1)) X = vR p m O X + rs t * fr' p r X := by
 have _u0 := lm
 have _u1 := hmon
 have _u2 := hi
 have _u3 := h9
 unfold vR
 rw [← su_upd 8 hr]
 refine su_congr 8 fun i _ => ?_
 by_cases e : i = r
 · subst e; rw [if_pos rfl, updR_same, rs_add (by omega), addm]
 · rw [if_neg e, updR_other e]
theorem vR_tmJ {F G O : Nat → Nat → Nat} (hG : rsk p m G) {i : Nat} (X : Res p (lz m)) : ∀ n, i + n ≤ 8 → n ≤ 8 → vR p m (tmJ p m d F G i O n) X = vR p m O X + rs (F i) * fr' p i (su (fun j => rs (G j) * fr' p j X) n)
 | 0, _, _ => by
  rw [tmJ_z]
  show _ = _ + rs (F i) * fr' p i o
  rw [fr_o (by omega), mulo, addo]
 | n + 1, h, h2 => by
  have h0 : 0 ≤ deg m := by rw [hmon.1]; omega
  rw [tmJ_s, vR_updR hp lm hmon hi h9 (by omega), vR_tmJ hG X n (by omega) (by omega), rs_mm hp lm h0, rs_frN hp lm hmon hi h9 (hG n (by omega)), aassoc]
  show _ = _ + rs (F i) * fr' p i (su _ n + rs (G n) * fr' p n X)
  rw [fr_sum hp res_char, madd, fr_mul, massoc, Nat.add_comm i n, fr_add p n X i]
theorem vR_tmR {F G : Nat → Nat → Nat} (hG : rsk p m G) (X : Res p (lz m)) {n : Nat} (hn : n ≤ 8) : ∀ a, a + n ≤ 9 → vR p m (tmR p m d F G n a) X = su (fun i => rs (F i) * fr' p i (su (fun j => rs (G j) * fr' p j X) n)) a
 | 0, _ => by
  rw [tmR_z]
  unfold vR
  have := su_tail (R := Res p (lz m)) (f := fun i => rs (fun _ => 0) * fr' p i X) (a := 0) (fun i _ => by rw [rs_zero, omul]) 8
  exact this
 | a + 1, h => by
  rw [tmR_s, vR_tmJ hp lm hmon hi h9 hG X n (by omega) hn, vR_tmR hG X hn a (by omega)]; rfl
/-- values of products -/
theorem vR_tmP {F G : Nat → Nat → Nat} (hG : rsk p m G) (hs : skD F + skD G ≤ 7) (X : Res p (lz m)) : vR p m (tmP p m d F G) X = vR p m F (vR p m G X) := by
 obtain ⟨a1, a2⟩ := zsd F
 obtain ⟨b1, b2⟩ := zsd G
 obtain ⟨a, ha⟩ : ∃ a : Nat, skD F = (a : Int) - 1 := ⟨(skD F + 1).toNat, by omega⟩
 obtain ⟨b, hb⟩ : ∃ b : Nat, skD G = (b : Int) - 1 := ⟨(skD G + 1).toNat, by omega⟩
 have z1 : ∀ i, a ≤ i → i < 8 → (rs (F i) : Res p (lz m)) = o := fun i h1 h2 => by
  rw [← rs_zero]; exact rs_cong (eqN_iff.1 (skN_spec F 8 i h2 (by unfold skD at ha; omega)))
 have z2 : ∀ i, b ≤ i → i < 8 → (rs (G i) : Res p (lz m)) = o := fun i h1 h2 => by
  rw [← rs_zero]; exact rs_cong (eqN_iff.1 (skN_spec G 8 i h2 (by unfold skD at hb; omega)))
 have t1 : ∀ (f : Nat → Res p (lz m)) (c : Nat), c ≤ 8 → (∀ i, c ≤ i → i < 8 → f i = o) → su f 8 = su f c := by
  intro f c hc h
  have := su_tail (f := fun i => if i < 8 then f i else o) (a := c) (fun i hi => by
   by_cases h8 : i < 8
   · rw [if_pos h8]; exact h i hi h8
   · exact if_neg h8) (8 - c)
  rw [show c + (8 - c) = 8 by omega] at this
  rw [su_congr 8 (f := f) (g := fun i => if i < 8 then f i else o) (fun i h => (if_pos h).symm), this]
  exact su_congr c fun i h => if_pos (by omega)
 rw [tmP_at ha hb]
 by_cases h : a + b ≤ 9
 · rw [vR_tmR hp lm hmon hi h9 hG X (by omega) a h]
   have e1 : vR p m G X = su (fun j => rs (G j) * fr' p j X) b := t1 _ b (by omega) (fun i h1 h2 => by rw [z2 i h1 h2, omul])
   have e2 : vR p m F (vR p m G X) = su (fun i => rs (F i) * fr' p i (vR p m G X)) a := t1 _ a (by omega) (fun i h1 h2 => by rw [z1 i h1 h2, omul])
   rw [e2, e1]
 · omega
theorem vlR_vR {F : Nat → Nat → Nat} {x : Nat → Nat} (hx : rsd p m x) : (rs (vlR p m d F x 8) : Res p (lz m)) = vR p m F (rs x) := vlR_rs hp lm hmon hi h9 hx 8
theorem vlR_rsd {F : Nat → Nat → Nat} {x : Nat → Nat} : ∀ n, rsd p m (vlR p m d F x n)
 | 0 => by have _u0 := hi; rw [vlR_z]; exact zero_rsd (by omega) (by rw [hmon.1]; omega)
 | n + 1 => by
  have h0 : 0 ≤ deg m := by rw [hmon.1]; omega
  rw [vlR_s]; exact addK_rsd (by omega) h0 (vlR_rsd n) (mm_rsd hp lm h0)
end
/-- the degrees of what has the value 0 -/
def lds (p : Nat) (m : Nat → Nat) (F : Nat → Nat → Nat) (n : Nat) : Prop := ∃ x, rsd p m x ∧ deg x = (n : Int) ∧ vR p m F (rs x) = o
open Classical in
noncomputable def cnt (p : Nat) (m : Nat → Nat) (d : Nat) (F : Nat → Nat → Nat) : Nat := ((List.range d).filter fun n => decide (lds p m F n)).length
theorem cnt_le (p : Nat) (m : Nat → Nat) (d : Nat) (F : Nat → Nat → Nat) : cnt p m d F ≤ d := by
 unfold cnt
 have := List.length_filter_le (fun n => @decide (lds p m F n) (Classical.propDecidable _)) (List.range d)
 rwa [List.length_range] at this
theorem filter_grow {α : Type} {P Q : α → Bool} : ∀ (l : List α), (∀ x, x ∈ l → P x = true → Q x = true) → (l.filter P).length ≤ (l.filter Q).length ∧ ((∃ x, x ∈ l ∧ Q x = true ∧ P x = false) → (l.filter P).length < (l.filter Q).length)
 | [], h => ⟨Nat.le_refl _, fun ⟨x, hx, _⟩ => by cases hx⟩
 | a :: l, h => by
  obtain ⟨h1, h2⟩ := filter_grow (P := P) (Q := Q) l (fun x hx => h x (List.mem_cons_of_mem _ hx))
  have ha := h a List.mem_cons_self
  cases hP : P a with
  | true =>
   have hQ := ha hP
   rw [List.filter_cons_of_pos hP, List.filter_cons_of_pos hQ, List.length_cons, List.length_cons]
   refine ⟨by omega, fun ⟨x, hx, hq, hn⟩ => ?_⟩
   rcases List.mem_cons.1 hx with rfl | hx
   · rw [hP] at hn; cases hn
   · have := h2 ⟨x, hx, hq, hn⟩; omega
  | false =>
   rw [List.filter_cons_of_neg (by rw [hP]; simp)]
   cases hQ : Q a with
   | true =>
    rw [List.filter_cons_of_pos hQ, List.length_cons]
    exact ⟨by omega, fun _ => by omega⟩
   | false =>
    rw [List.filter_cons_of_neg (by rw [hQ]; simp)]
    refine ⟨h1, fun ⟨x, hx, hq, hn⟩ => ?_⟩
    rcases List.mem_cons.1 hx with rfl | hx
    · rw [hQ] at hq; cases hq
    · exact h2 ⟨x, hx, hq, hn⟩
section
variable {p : Nat} {m : Nat → Nat} {d : Nat} (hp : p = 2 ∨ p = 3 ∨ p = 5 ∨ p = 7) (lm : ∀ k, k < 64 → m k < p) (hmon : mon m d) (hi : irr p (cut m) d) (h9 : d ≤ 9)
include hp lm hmon hi h9
/-- the leading coefficient goes -/
theorem lead_away {x z : Nat → Nat} {n : Nat} (hx : rsd p m x) (hz : rsd p m z) (ex : deg x = (n : Int)) (ez : deg z = (n : Int)) : ∃ c : Nat, deg (addK p x z (c : Int)) < (n : Int) := by
 have _u0 := hmon
 have _u1 := h9
 have hn : n < 64 := by have := zdb x; omega
 have zn : z n ≠ 0 := by
  rcases deg_spec z with ⟨h, _⟩ | ⟨k, hk, h, h2, _⟩
  · omega
  · have : k = n := by omega
    subst this; exact h2
 have hc : ∃ c : Nat, (x n + c * z n) % p = 0 := by
  have h1 := hx.1 n hn
  have h2 := hz.1 n hn
  generalize x n = a at h1
  generalize z n = b at h2 zn
  rcases hp with rfl | rfl | rfl | rfl
  · exact ⟨a, by have : b = 1 := by omega
                 subst this; omega⟩
  · rcases (show b = 1 ∨ b = 2 by omega) with rfl | rfl
    · exact ⟨2 * a, by omega⟩
    · exact ⟨a, by omega⟩
  · rcases (show b = 1 ∨ b = 2 ∨ b = 3 ∨ b = 4 by omega) with rfl | rfl | rfl | rfl
    · exact ⟨4 * a, by omega⟩
    · exact ⟨2 * a, by omega⟩
    · exact ⟨3 * a, by omega⟩
    · exact ⟨a, by omega⟩
  · rcases (show b = 1 ∨ b = 2 ∨ b = 3 ∨ b = 4 ∨ b = 5 ∨ b = 6 by omega) with rfl | rfl | rfl | rfl | rfl | rfl
    · exact ⟨6 * a, by omega⟩
    · exact ⟨3 * a, by omega⟩
    · exact ⟨2 * a, by omega⟩
    · exact ⟨5 * a, by omega⟩
    · exact ⟨4 * a, by omega⟩
    · exact ⟨a, by omega⟩
 obtain ⟨c, hc⟩ := hc
 refine ⟨c, ?_⟩
 have at_ : ∀ k, addK p x z (c : Int) k = (x k + c * z k) % p := fun k => by
  have h1 := addK_lt (f := x) (g := z) (c := (c : Int)) (show 0 < p by omega) k
  have h2 := addK_cg (f := x) (g := z) (c := (c : Int)) (show 0 < p by omega)
  unfold addK
  have : ((x k : Int) + (c : Int) * (z k : Int)) = ((x k + c * z k : Nat) : Int) := by push_cast; rfl
  rw [this]; omega
 rcases deg_spec (addK p x z (c : Int)) with ⟨h, _⟩ | ⟨k, hk, h, h2, _⟩
 · omega
 · rw [h]
   by_cases hlt : k < n
   · omega
   · exfalso
     apply h2
     rw [at_]
     by_cases e : k = n
     · subst e; exact hc
     · have z1 : x k = 0 := by
        rcases deg_spec x with ⟨h3, h4⟩ | ⟨j, hj, h3, _, h4⟩
        · exact h4 k hk
        · exact h4 k (by omega) hk
       have z2 : z k = 0 := by
        rcases deg_spec z with ⟨h3, h4⟩ | ⟨j, hj, h3, _, h4⟩
        · exact h4 k hk
        · exact h4 k (by omega) hk
       rw [z1, z2, Nat.mul_zero, Nat.add_zero, Nat.zero_mod]
theorem lds_grow {F F' : Nat → Nat → Nat} (hin : ∀ x, rsd p m x → vR p m F (rs x) = o → vR p m F' (rs x) = o) : ∀ (N : Nat) (x : Nat → Nat), deg x < (N : Int) → rsd p m x → vR p m F (rs x) ≠ o → vR p m F' (rs x) = o → ∃ n, n < d ∧ lds p m F' n ∧ ¬ lds p m F n
 | 0, x, hN, hx, h1, h2 => by
  exfalso; apply h1
  have : (rs x : Res p (lz m)) = o := by rw [← rs_zero]; exact rs_cong (dgz_out (by omega))
  rw [this]; exact vR_o hp lm hmon hi h9 F
 | N + 1, x, hN, hx, h1, h2 => by
  by_cases h0 : deg x < 0
  · exact lds_grow hin 0 x h0 hx h1 h2
  · obtain ⟨n, hn⟩ : ∃ n : Nat, deg x = (n : Int) := ⟨(deg x).toNat, by omega⟩
    by_cases hl : lds p m F n
    · obtain ⟨z, hz, ez, hv⟩ := hl
      obtain ⟨c, hc⟩ := lead_away hp lm hmon hi h9 hx hz hn ez
      have e : (rs (addK p x z (c : Int)) : Res p (lz m)) = rs x + nm c (rs z) := rs_addK (by omega)
      refine lds_grow hin N (addK p x z (c : Int)) (by omega) (addK_rsd (by omega) (by rw [hmon.1]; omega) hx hz) ?_ ?_
      · rw [e, vR_add hp lm hmon hi h9, vR_nm hp lm hmon hi h9, hv]
        have : nm c (o : Res p (lz m)) = o := by
         have := vR_nm hp lm hmon hi h9 F (o : Res p (lz m)) c
         rw [vR_o hp lm hmon hi h9] at this
         have h3 : ∀ c, nm c (o : Res p (lz m)) = o := fun c => by
          induction c with
          | zero => rfl
          | succ c ih => show nm c o + o = o; rw [ih, addo]
         exact h3 c
        rw [this, addo]; exact h1
      · rw [e, vR_add hp lm hmon hi h9, vR_nm hp lm hmon hi h9, hin z hz hv, h2]
        have h3 : ∀ c, nm c (o : Res p (lz m)) = o := fun c => by
         induction c with
         | zero => rfl
         | succ c ih => show nm c o + o = o; rw [ih, addo]
        rw [h3, addo]
    · have hd := hx.2
      rw [hmon.1] at hd
      exact ⟨n, by omega, ⟨x, hx, hn, h2⟩, hl⟩
theorem cnt_grow {F F' : Nat → Nat → Nat} (hin : ∀ x, rsd p m x → vR p m F (rs x) = o → vR p m F' (rs x) = o) {x : Nat → Nat} (hx : rsd p m x) (h1 : vR p m F (rs x) ≠ o) (h2 : vR p m F' (rs x) = o) : cnt p m d F + 1 ≤ cnt p m d F' := by
 obtain ⟨n, hn, h3, h4⟩ := lds_grow hp lm hmon hi h9 hin 64 x (by have := zdb x; omega) hx h1 h2
 unfold cnt
 refine (filter_grow (List.range d) (fun k _ hk => ?_)).2 ⟨n, List.mem_range.2 hn, by simpa using h3, by simpa using h4⟩
 simp only [decide_eq_true_eq] at hk ⊢
 obtain ⟨z, a, b, c⟩ := hk
 exact ⟨z, a, b, hin z a c⟩
end
end Go.Proofs.Ytelgefgphhebnaa
end
section
namespace Go.Proofs.Ytelgefgphhebnaa
open Rg
set_option linter.unusedVariables false
/-- tau less the power p - 1 of y -/
def lsF (p : Nat) (m y : Nat → Nat) : Nat → Nat → Nat := updR (sng 0 (addK p (fun _ => 0) (pmP p y (p - 1) m) (-1))) 1 oneP
theorem lsF_0 (p : Nat) (m y : Nat → Nat) : lsF p m y 0 = addK p (fun _ => 0) (pmP p y (p - 1) m) (-1) := by
 unfold lsF sng; rw [updR_other (by omega), updR_same]
theorem lsF_1 (p : Nat) (m y : Nat → Nat) : lsF p m y 1 = oneP := updR_same _ _ _
theorem lsF_2 (p : Nat) (m y : Nat → Nat) {i : Nat} (h : 2 ≤ i) : lsF p m y i = fun _ => 0 := by
 unfold lsF sng; rw [updR_other (by omega), updR_other (by omega)]
section
variable {p : Nat} {m : Nat → Nat} {d : Nat} (hp : p = 2 ∨ p = 3 ∨ p = 5 ∨ p = 7) (lm : ∀ k, k < 64 → m k < p) (hmon : mon m d) (hi : irr p (cut m) d) (h9 : d ≤ 9)
include hp lm hmon hi h9
theorem pm_rsd {y : Nat → Nat} (hy : rsd p m y) : rsd p m (pmP p y (p - 1) m) := by
 have _u0 := hi
 obtain ⟨a, b, _⟩ := pmP_spec (k := p - 1) hp hy.1 lm (by rw [hmon.1]; omega) (by omega)
 exact ⟨a, b⟩
theorem lsF_rsk {y : Nat → Nat} (hy : rsd p m y) : rsk p m (lsF p m y) := by
 have h0 : 0 ≤ deg m := by rw [hmon.1]; omega
 intro i _
 by_cases h : i = 0
 · subst h; rw [lsF_0]; exact addK_rsd (by omega) h0 (zero_rsd (by omega) h0) (pm_rsd hp lm hmon hi h9 hy)
 · by_cases h1 : i = 1
   · subst h1; rw [lsF_1]; exact one_rsd hp lm hmon hi h9
   · rw [lsF_2 p m y (by omega)]; exact zero_rsd (by omega) h0
theorem lsF_deg {y : Nat → Nat} : skD (lsF p m y) = ((1 : Nat) : Int) := have _u0 := hp; have _u1 := lm; have _u2 := hmon; have _u3 := hi; have _u4 := h9; skD_at (by omega) (by rw [lsF_1, deg_one]; omega) (fun i h _ k _ => by rw [lsF_2 p m y (by omega)])
theorem rs_neg {f : Nat → Nat} (hf : ∀ k, k < 64 → f k < p) : (rs (addK p (fun _ => 0) f (-1)) : Res p (lz m)) + rs f = o := by
 have _u0 := lm
 have _u1 := hmon
 have _u2 := hi
 have _u3 := h9
 rw [← rs_add (by omega), ← rs_zero]
 refine rs_cong fun k hk => ?_
 rw [addK_one]
 show (addK p (fun _ => 0) f (-1) k + f k) % p = 0
 rw [addK_neg (by omega) hf hk, Nat.zero_add]
 have := hf k hk
 by_cases h : f k = 0
 · rw [h, Nat.sub_zero, Nat.mod_self, Nat.add_zero, Nat.zero_mod]
 · rw [Nat.mod_eq_of_lt (show p - f k < p by omega), Nat.sub_add_cancel (by omega), Nat.mod_self]
theorem lsF_kill {y : Nat → Nat} (hy : rsd p m y) : vR p m (lsF p m y) (rs y) = o := by
 have h0 : 0 ≤ deg m := by rw [hmon.1]; omega
 unfold vR
 rw [show (8 : Nat) = 2 + 6 from rfl, su_tail (fun i h => by rw [lsF_2 p m y h, rs_zero, omul]) 6]
 show o + rs (lsF p m y 0) * fr' p 0 (rs y) + rs (lsF p m y 1) * fr' p 1 (rs y) = o
 have e1 : fr' p 1 (rs y : Res p (lz m)) = rs y * rs (pmP p y (p - 1) m) := by
  rw [rs_pm hp hy.1 lm h0 (by omega), ← pw_pred (rs y) (show 1 ≤ p by omega)]
  unfold fr'; rw [Nat.pow_one]
 rw [oadd, lsF_0, lsF_1, fr_z, e1, rs_oneP, emul, mcomm (rs y), ← addm, rs_neg hp lm hmon hi h9 (pm_rsd hp lm hmon hi h9 hy).1, omul]
theorem ls_step (h4 : d ≤ 4) {L : Nat → Nat → Nat} {x : Nat → Nat} (hL : rsk p m L) (hx : rsd p m x) (hs0 : 0 ≤ skD L) (hs : skD L ≤ (cnt p m d L : Int)) (hy : 0 ≤ deg (vlR p m d L x 8)) :
 rsk p m (tmP p m d (lsF p m (vlR p m d L x 8)) L) ∧ 0 ≤ skD (tmP p m d (lsF p m (vlR p m d L x 8)) L) ∧ skD (tmP p m d (lsF p m (vlR p m d L x 8)) L) ≤ (cnt p m d (tmP p m d (lsF p m (vlR p m d L x 8)) L) : Int) ∧ skD (lsF p m (vlR p m d L x 8)) + skD L ≤ 7 := by
 have h0 : 0 ≤ deg m := by rw [hmon.1]; omega
 have hyr : rsd p m (vlR p m d L x 8) := vlR_rsd hp lm hmon hi h9 8
 have hv := vlR_vR hp lm hmon hi h9 (F := L) hx
 obtain ⟨n, hn⟩ : ∃ n : Nat, skD L = (n : Int) := ⟨(skD L).toNat, by omega⟩
 have hc := cnt_le p m d L
 have hfd := lsF_deg hp lm hmon hi h9 (y := vlR p m d L x 8)
 have hfit : skD (lsF p m (vlR p m d L x 8)) + skD L ≤ 7 := by omega
 have hdeg := tmP_deg hp lm hmon hi h9 (lsF_rsk hp lm hmon hi h9 hyr) hL hfd hn (by omega)
 refine ⟨fun i _ => tmP_rsd hp lm h0 i, by omega, ?_, hfit⟩
 have hval := fun X => vR_tmP hp lm hmon hi h9 (F := lsF p m (vlR p m d L x 8)) hL hfit X
 have := cnt_grow hp lm hmon hi h9 (F := L) (F' := tmP p m d (lsF p m (vlR p m d L x 8)) L) (fun z _ hz => by rw [hval, hz, vR_o hp lm hmon hi h9]) hx (fun h => by
  rw [← hv] at h
  have := zero_of_rs hp lm hmon hi h9 hyr h
  omega) (by rw [hval, ← hv]; exact lsF_kill hp lm hmon hi h9 hyr)
 omega
end
end Go.Proofs.Ytelgefgphhebnaa
end
section
namespace Go.Proofs.Ytelgefgphhebnaa
open Rg
set_option linter.unusedVariables false
def lqS (p : Nat) (m : Nat → Nat) (d : Nat) (L : Nat → Nat → Nat) (x : Nat → Nat) : Nat → Nat → Nat := if deg (vlR p m d L x 8) < 0 then L else tmP p m d (lsF p m (vlR p m d L x 8)) L
theorem lqS_no {p d : Nat} {m x : Nat → Nat} {L : Nat → Nat → Nat} (h : deg (vlR p m d L x 8) < 0) : lqS p m d L x = L := if_pos h
theorem lqS_yes {p d : Nat} {m x : Nat → Nat} {L : Nat → Nat → Nat} (h : ¬ deg (vlR p m d L x 8) < 0) : lqS p m d L x = tmP p m d (lsF p m (vlR p m d L x 8)) L := if_neg h
def lqR (p : Nat) (m : Nat → Nat) (d : Nat) (Ls : List (Nat → Nat)) (j : Nat) : Nat → Nat → Nat := (Ls.take j).foldl (lqS p m d) (sng 0 oneP)
theorem lqR_z (p : Nat) (m : Nat → Nat) (d : Nat) (Ls : List (Nat → Nat)) : lqR p m d Ls 0 = sng 0 oneP := by unfold lqR; rw [List.take_zero]; rfl
theorem lqR_s {p d : Nat} {m : Nat → Nat} {Ls : List (Nat → Nat)} {j : Nat} {x : Nat → Nat} (h : Ls[j]? = some x) : lqR p m d Ls (j + 1) = lqS p m d (lqR p m d Ls j) x := by
 unfold lqR
 rw [List.take_add_one, h, List.foldl_append]
 rfl
def lqI (p : Nat) (m : Nat → Nat) (d : Nat) (L : Nat → Nat → Nat) : Prop := rsk p m L ∧ 0 ≤ skD L ∧ skD L ≤ (cnt p m d L : Int)
section
variable {p : Nat} {m : Nat → Nat} {d : Nat} (hp : p = 2 ∨ p = 3 ∨ p = 5 ∨ p = 7) (lm : ∀ k, k < 64 → m k < p) (hmon : mon m d) (hi : irr p (cut m) d) (h9 : d ≤ 9)
include hp lm hmon hi h9
theorem lqI_z : lqI p m d (sng 0 oneP) := by
 have h0 : 0 ≤ deg m := by rw [hmon.1]; omega
 have e : skD (sng 0 oneP) = ((0 : Nat) : Int) := sng_deg (by omega) (by rw [deg_one]; omega)
 refine ⟨fun i _ => ?_, by omega, by omega⟩
 by_cases h : i = 0
 · subst h; unfold sng; rw [updR_same]; exact one_rsd hp lm hmon hi h9
 · unfold sng; rw [updR_other h]; exact zero_rsd (by omega) h0
theorem lqI_step (h4 : d ≤ 4) {L : Nat → Nat → Nat} {x : Nat → Nat} (h : lqI p m d L) (hx : rsd p m x) : lqI p m d (lqS p m d L x) := by
 by_cases hn : deg (vlR p m d L x 8) < 0
 · rw [lqS_no hn]; exact h
 · rw [lqS_yes hn]
   obtain ⟨a, b, c, _⟩ := ls_step hp lm hmon hi h9 h4 h.1 hx h.2.1 h.2.2 (by omega)
   exact ⟨a, b, c⟩
theorem lqI_all (h4 : d ≤ 4) {Ls : List (Nat → Nat)} (hL : ∀ z, z ∈ Ls → rsd p m z) : ∀ j, lqI p m d (lqR p m d Ls j)
 | 0 => by rw [lqR_z]; exact lqI_z hp lm hmon hi h9
 | j + 1 => by
  cases h : Ls[j]? with
  | none =>
   have hl : Ls.length ≤ j := List.getElem?_eq_none_iff.1 h
   have e : lqR p m d Ls (j + 1) = lqR p m d Ls j := by unfold lqR; rw [List.take_of_length_le hl, List.take_of_length_le (by omega)]
   rw [e]; exact lqI_all h4 hL j
  | some x => rw [lqR_s h]; exact lqI_step hp lm hmon hi h9 h4 (lqI_all h4 hL j) (hL x (List.mem_of_getElem? h))
theorem lq_fit (h4 : d ≤ 4) {L : Nat → Nat → Nat} {x : Nat → Nat} (h : lqI p m d L) (hx : rsd p m x) (hn : ¬ deg (vlR p m d L x 8) < 0) : skD (lsF p m (vlR p m d L x 8)) + skD L ≤ 7 :=
 (ls_step hp lm hmon hi h9 h4 h.1 hx h.2.1 h.2.2 (by omega)).2.2.2
end
attribute [irreducible] lqS lqR
end Go.Proofs.Ytelgefgphhebnaa
end
section
namespace Go.Proofs.Ytelgefgphhebnaa
open Go Go.RowKit
set_option linter.unusedVariables false
set_option linter.unusedSimpArgs false
attribute [local irreducible] deg addK strP frI frN mmP pmP resP bzU bzD bzW skA skD
set_option maxRecDepth 100000 in
set_option maxHeartbeats 1600000 in
theorem quotient_any (p : Nat) (m x y : Nat → Nat) (w : World) (hpr : p = 2 ∨ p = 3 ∨ p = 5 ∨ p = 7) (lm : ∀ k, k < 64 → m k < p) (h0 : 0 ≤ deg m) (lx : ∀ k, k < 64 → x k < p) (ly : ∀ k, k < 64 → y k < p) :
 Calls Try.prog 110 #[.agg (fdC (p : Int) m).toArray, .agg (zb 64 x), .agg (zb 64 y)] w fun e w' => e = .returned (.agg (zb 64 (mmP p x (bzU p y m) m))) ∧ Below w.heap.size w w' := by
 have HB := Lib.hid (fun W => bezout_any p y m W hpr ly lm (.inr h0))
 have HP := Lib.hid (fun W => kproduct_any p m x (bzU p y m) W hpr lm h0 lx (fun k _ => bzU_lt (by omega) k))
 clear h0 lx ly lm
 go_enter Try.func110, Try.ntmps110
 go_upto_region 1 with (fail)
 rw [← z64]
 obtain ⟨W1, hwo⟩ : ∃ v : World, v = ((((w.alloc (.cells (fdC (p : Int) m).toArray 70)).alloc (.cells (zb 64 (x)) 28)).alloc (.cells (zb 64 (y)) 28)).alloc (.cells (zb 64 (fun _ => 0)) 28)) := ⟨_, rfl⟩
 have B0 : Row W1 (w.heap.size) 70 (fdC (p : Int) m).toArray := by subst hwo; have := ((((Row.new w 70 (fdC (p : Int) m).toArray).alloc (.cells (zb 64 (x)) 28)).alloc (.cells (zb 64 (y)) 28)).alloc (.cells (zb 64 (fun _ => 0)) 28)); simpa using this
 have B1 : Blk W1 (w.heap.size + 1) 64 28 (x) := by subst hwo; have := (((Blk.new (w.alloc (.cells (fdC (p : Int) m).toArray 70)) 64 28 (x)).alloc (.cells (zb 64 (y)) 28)).alloc (.cells (zb 64 (fun _ => 0)) 28)); simpa using this
 have B2 : Blk W1 (w.heap.size + 1 + 1) 64 28 (y) := by subst hwo; have := ((Blk.new ((w.alloc (.cells (fdC (p : Int) m).toArray 70)).alloc (.cells (zb 64 (x)) 28)) 64 28 (y)).alloc (.cells (zb 64 (fun _ => 0)) 28)); simpa using this
 have B3 : Blk W1 (w.heap.size + 1 + 1 + 1) 64 28 (fun _ => 0) := by subst hwo; have := (Blk.new (((w.alloc (.cells (fdC (p : Int) m).toArray 70)).alloc (.cells (zb 64 (x)) 28)).alloc (.cells (zb 64 (y)) 28)) 64 28 (fun _ => 0)); simpa using this
 have hb : Below w.heap.size w W1 := by subst hwo; exact (((((Below.refl _ _).alloc (Nat.le_refl _) _).alloc (by simp) _).alloc (by simp; omega) _).alloc (by simp; omega) _)
 rw [← hwo]
 clear hwo
 have cc := B0.cell (i := 0) (v := .int .i64 (p : Int)) (fdC_at (p : Int) m)
 have lt_B0 := B0.lt
 have lt_B1 := B1.lt
 have lt_B2 := B2.lt
 have lt_B3 := B3.lt
 go_upto_region 2 with (first | rw [← z64] | (refine zla (.tmp 5) B2 Try.underlying28 Try.size28 ?_) | (refine wpList_load_mid rfl 28 (.tmp 14) rfl _ 1 rfl (bl 64 m) _ (B0.fd) Try.underlying28 rfl (by rw [zl]; exact Try.size28) ?_) | (go_at_call 144; refine (HB.out _).mono ?_; rintro e W2 ⟨rfl, hW2⟩; replace B0 := B0.zw hW2; replace B1 := B1.zw hW2; replace B2 := B2.zw hW2; replace B3 := B3.zw hW2; replace hb := (hb).trans (hW2.mono (hb).size)) | (refine wpList_store_blk rfl 28 (.tmp 7) (.tmp 17) rfl _ 64 (bzD p y m) rfl rfl 28 _ ((((Blk.new W2 64 28 (fun _ => 0)).alloc (.cells (zb 64 (fun _ => 0)) 28)).alloc (.cells (zb 64 (fun _ => 0)) 28))) Try.size28 ?_; try simp only [Act.put]) | (refine wpList_store_blk rfl 28 (.tmp 8) (.tmp 18) rfl _ 64 (bzU p y m) rfl rfl 28 _ ((((show Blk ((W2.alloc (.cells (zb 64 (fun _ => 0)) 28)).alloc (.cells (zb 64 (fun _ => 0)) 28)) (W2.heap.size + 1) 64 28 (fun _ => 0) by have := Blk.new (W2.alloc (.cells (zb 64 (fun _ => 0)) 28)) 64 28 (fun _ => 0); simpa using this).alloc (.cells (zb 64 (fun _ => 0)) 28)).rowOther (by omega))) Try.size28 ?_; try simp only [Act.put]) | (refine wpList_store_blk rfl 28 (.tmp 9) (.tmp 19) rfl _ 64 (bzW p y m) rfl rfl 28 _ ((((show Blk (((W2.alloc (.cells (zb 64 (fun _ => 0)) 28)).alloc (.cells (zb 64 (fun _ => 0)) 28)).alloc (.cells (zb 64 (fun _ => 0)) 28)) (W2.heap.size + 1 + 1) 64 28 (fun _ => 0) by have := Blk.new ((W2.alloc (.cells (zb 64 (fun _ => 0)) 28)).alloc (.cells (zb 64 (fun _ => 0)) 28)) 64 28 (fun _ => 0); simpa using this).rowOther (by omega)).rowOther (by omega))) Try.size28 ?_; try simp only [Act.put]))
 have lt_B0 := B0.lt
 have lt_B1 := B1.lt
 have lt_B2 := B2.lt
 have lt_B3 := B3.lt
 have lhb := hb.size
 obtain ⟨W3, hwo, hzQ⟩ : ∃ v : World, v = ((((((W2.alloc (.cells (zb 64 (fun _ => 0)) 28)).alloc (.cells (zb 64 (fun _ => 0)) 28)).alloc (.cells (zb 64 (fun _ => 0)) 28)).setRow (W2.heap.size) (zb 64 (bzD p y m))).setRow (W2.heap.size + 1) (zb 64 (bzU p y m))).setRow (W2.heap.size + 1 + 1) (zb 64 (bzW p y m))) ∧ Row v (w.heap.size) 70 (fdC (p : Int) m).toArray ∧ Blk v (w.heap.size + 1) 64 28 (x) ∧ Blk v (w.heap.size + 1 + 1) 64 28 (y) ∧ Blk v (w.heap.size + 1 + 1 + 1) 64 28 (fun _ => 0) ∧ Blk v (W2.heap.size) 64 28 (bzD p y m) ∧ Blk v (W2.heap.size + 1) 64 28 (bzU p y m) ∧ Blk v (W2.heap.size + 1 + 1) 64 28 (bzW p y m) ∧ Below w.heap.size w v := ⟨_, rfl, ((((((B0.alloc (.cells (zb 64 (fun _ => 0)) 28)).alloc (.cells (zb 64 (fun _ => 0)) 28)).alloc (.cells (zb 64 (fun _ => 0)) 28)).rowOther (by omega)).rowOther (by omega)).rowOther (by omega)), ((((((B1.alloc (.cells (zb 64 (fun _ => 0)) 28)).alloc (.cells (zb 64 (fun _ => 0)) 28)).alloc (.cells (zb 64 (fun _ => 0)) 28)).rowOther (by omega)).rowOther (by omega)).rowOther (by omega)), ((((((B2.alloc (.cells (zb 64 (fun _ => 0)) 28)).alloc (.cells (zb 64 (fun _ => 0)) 28)).alloc (.cells (zb 64 (fun _ => 0)) 28)).rowOther (by omega)).rowOther (by omega)).rowOther (by omega)), ((((((B3.alloc (.cells (zb 64 (fun _ => 0)) 28)).alloc (.cells (zb 64 (fun _ => 0)) 28)).alloc (.cells (zb 64 (fun _ => 0)) 28)).rowOther (by omega)).rowOther (by omega)).rowOther (by omega)), ((((((Blk.new W2 64 28 (fun _ => 0)).alloc (.cells (zb 64 (fun _ => 0)) 28)).alloc (.cells (zb 64 (fun _ => 0)) 28)).row (bzD p y m)).rowOther (by omega)).rowOther (by omega)), (((((show Blk ((W2.alloc (.cells (zb 64 (fun _ => 0)) 28)).alloc (.cells (zb 64 (fun _ => 0)) 28)) (W2.heap.size + 1) 64 28 (fun _ => 0) by have := Blk.new (W2.alloc (.cells (zb 64 (fun _ => 0)) 28)) 64 28 (fun _ => 0); simpa using this).alloc (.cells (zb 64 (fun _ => 0)) 28)).rowOther (by omega)).row (bzU p y m)).rowOther (by omega)), ((((show Blk (((W2.alloc (.cells (zb 64 (fun _ => 0)) 28)).alloc (.cells (zb 64 (fun _ => 0)) 28)).alloc (.cells (zb 64 (fun _ => 0)) 28)) (W2.heap.size + 1 + 1) 64 28 (fun _ => 0) by have := Blk.new ((W2.alloc (.cells (zb 64 (fun _ => 0)) 28)).alloc (.cells (zb 64 (fun _ => 0)) 28)) 64 28 (fun _ => 0); simpa using this).rowOther (by omega)).rowOther (by omega)).row (bzW p y m)), (zr (zr (zr (((hb.alloc (by have := hb.size; simp; omega) (.cells (zb 64 (fun _ => 0)) 28)).alloc (by have := hb.size; simp; omega) (.cells (zb 64 (fun _ => 0)) 28)).alloc (by have := hb.size; simp; omega) (.cells (zb 64 (fun _ => 0)) 28)) (by omega) _) (by omega) _) (by omega) _)⟩
 rw [← hwo]
 clear hwo B0 B1 B2 B3 hb
 obtain ⟨B0, B1, B2, B3, B4, B5, B6, hb⟩ := hzQ
 obtain ⟨N1, hNN⟩ : ∃ n : Nat, n = W2.heap.size := ⟨_, rfl⟩
 rw [← hNN] at lt_B0 lt_B1 lt_B2 lt_B3 lhb B4 B5 B6 ⊢
 clear hNN
 have zN1_0 := lt_B0
 have zN1_1 := lt_B1
 have zN1_2 := lt_B2
 have zN1_3 := lt_B3
 have zN1 := lhb
 clear lt_B0 lt_B1 lt_B2 lt_B3 lhb
 try simp only [Act.put, pA, pB, pC]
 have lt_B0 := B0.lt
 have lt_B1 := B1.lt
 have lt_B2 := B2.lt
 have lt_B3 := B3.lt
 have lt_B4 := B4.lt
 have lt_B5 := B5.lt
 have lt_B6 := B6.lt
 go_wp2_with (first | rw [← z64] | (refine zlr rfl 70 (.tmp 3) rfl _ rfl 70 (fdC (p : Int) m).toArray B0 _ Try.underlying70 rfl 65 Try.size70 (by simp [fdC_len]) ?_) | (refine zla (.tmp 4) B1 Try.underlying28 Try.size28 ?_) | (refine zla (.tmp 8) B5 Try.underlying28 Try.size28 ?_) | (go_at_call 122; refine (HP.out _).mono ?_; rintro e W4 ⟨rfl, hW4⟩; replace B0 := B0.zw hW4; replace B1 := B1.zw hW4; replace B2 := B2.zw hW4; replace B3 := B3.zw hW4; replace B4 := B4.zw hW4; replace B5 := B5.zw hW4; replace B6 := B6.zw hW4; replace hb := (hb).trans (hW4.mono (hb).size)) | (refine zsr (.tmp 6) (.tmp 23) (mmP p x (bzU p y m) m) B3 Try.size28 ?_; try simp only [Act.put]))
 obtain ⟨W5, hwo, hzQ⟩ : ∃ v : World, v = (W4.setRow (w.heap.size + 1 + 1 + 1) (zb 64 (mmP p x (bzU p y m) m))) ∧ Row v (w.heap.size) 70 (fdC (p : Int) m).toArray ∧ Blk v (w.heap.size + 1) 64 28 (x) ∧ Blk v (w.heap.size + 1 + 1) 64 28 (y) ∧ Blk v (w.heap.size + 1 + 1 + 1) 64 28 (mmP p x (bzU p y m) m) ∧ Blk v (N1) 64 28 (bzD p y m) ∧ Blk v (N1 + 1) 64 28 (bzU p y m) ∧ Blk v (N1 + 1 + 1) 64 28 (bzW p y m) ∧ Below w.heap.size w v := ⟨_, rfl, (B0.rowOther (by omega)), (B1.rowOther (by omega)), (B2.rowOther (by omega)), (B3.row (mmP p x (bzU p y m) m)), (B4.rowOther (by omega)), (B5.rowOther (by omega)), (B6.rowOther (by omega)), (zr hb (by omega) _)⟩
 rw [← hwo]
 clear hwo B0 B1 B2 B3 B4 B5 B6 hb
 obtain ⟨B0, B1, B2, B3, B4, B5, B6, hb⟩ := hzQ
 try simp only [Act.put, pA, pB, pC]
 refine bodyPost_ret (zrb rfl _ _ _ 64 28 5 _ rfl B3 Try.underlying28 Try.size28) rfl ⟨rfl, hb⟩
end Go.Proofs.Ytelgefgphhebnaa
end
section
namespace Go.Proofs.Ytelgefgphhebnaa
open Go Go.RowKit
set_option linter.unusedVariables false
theorem built_sk0 (a : Nat → Nat) : Try.prog.built 46 [(0, .agg (zb 64 a))] = some (zb 512 (fl 64 (sng 0 a))) := by
 unfold zb bl; kernel_rfl
end Go.Proofs.Ytelgefgphhebnaa
end
section
namespace Go.Proofs.Ytelgefgphhebnaa
open Go Go.RowKit
set_option linter.unusedVariables false
set_option linter.unusedSimpArgs false
attribute [local irreducible] sng oneP
set_option maxRecDepth 100000 in
set_option maxHeartbeats 1600000 in
theorem l03One_any (w : World) : Calls Try.prog 104 #[] w fun e w' => e = .returned (.agg (zb 512 (fl 64 (sng 0 oneP)))) ∧ Below w.heap.size w w' := by
 go_enter Try.func104, Try.ntmps104
 go_upto_region 1 with (fail)
 rw [← zero512]
 obtain ⟨W1, hwo⟩ : ∃ v : World, v = (w.alloc (.cells (zb 512 (fl 64 (fun _ _ => 0))) 46)) := ⟨_, rfl⟩
 have B0 : Blk W1 (w.heap.size) 512 46 (fl 64 (fun _ _ => 0)) := by subst hwo; have := (Blk.new w 512 46 (fl 64 (fun _ _ => 0))); simpa using this
 have hb : Below w.heap.size w W1 := by subst hwo; exact ((Below.refl _ _).alloc (Nat.le_refl _) _)
 rw [← hwo]
 clear hwo
 have lt_B0 := B0.lt
 go_wp2_with (first | rw [← z64] | rw [← zero512] | (go_at_call 108; refine (l01One_any _).mono ?_; rintro e W2 ⟨rfl, hW2⟩; replace B0 := B0.zw hW2; replace hb := (hb).trans (hW2.mono (hb).size)) | (refine zbo rfl 46 _ rfl (zb 512 (fl 64 (sng 0 oneP))) (by rw [Array.toList_map]; exact built_sk0 oneP) ?_) | (refine zsr (.tmp 0) (.tmp 2) (fl 64 (sng 0 oneP)) B0 Try.size46 ?_; try simp only [Act.put]))
 obtain ⟨W3, hwo, hzQ⟩ : ∃ v : World, v = (W2.setRow (w.heap.size) (zb 512 (fl 64 (sng 0 oneP)))) ∧ Blk v (w.heap.size) 512 46 (fl 64 (sng 0 oneP)) ∧ Below w.heap.size w v := ⟨_, rfl, (B0.row (fl 64 (sng 0 oneP))), (zr hb (by omega) _)⟩
 rw [← hwo]
 clear hwo B0 hb
 obtain ⟨B0, hb⟩ := hzQ
 try simp only [Act.put, pA, pB, pC]
 refine bodyPost_ret (results_any rfl _ _ _ 512 _ _ rfl B0 _ Try.underlying46 rfl Try.size46) rfl ⟨rfl, hb⟩
end Go.Proofs.Ytelgefgphhebnaa
end
section
namespace Go.Proofs.Ytelgefgphhebnaa
open Go Go.RowKit
set_option linter.unusedVariables false
set_option linter.unusedSimpArgs false
theorem built_ls (a : Nat → Nat) : Try.prog.built 46 [(0, .agg (zb 64 a)), (1, .agg (zb 64 oneP))] = some (zb 512 (fl 64 (updR (sng 0 a) 1 oneP))) := by
 unfold zb bl; kernel_rfl
theorem sub_addq {p : Nat} {x y : Nat → Nat} (hp : 0 < p) (ly : ∀ k, k < 64 → y k < p) : ∀ k, k < 64 → (x k + p - y k) % p = addK p x y (-1) k := fun k hk => by
 have e : (((x k + p - y k) % p : Nat) : Int) = ((addK p x y (-1) k : Nat) : Int) := by
  have h1 := ly k hk
  unfold addK
  rw [Int.toNat_of_nonneg (Int.emod_nonneg _ (by omega)), Int.natCast_emod, Int.ofNat_sub (by omega), Int.natCast_add]
  rw [show ((x k : Int) + (p : Int) - (y k : Int)) = ((x k : Int) + -1 * (y k : Int)) + (p : Int) by omega, Int.add_emod_right]
 exact Int.ofNat.inj e
theorem lsF_eq (p : Nat) (m y : Nat → Nat) : updR (sng 0 (addK p (fun _ => 0) (pmP p y (p - 1) m) (-1))) 1 oneP = lsF p m y := rfl
theorem eqz_deg {y : Nat → Nat} (h : eqN 64 y (fun _ => 0) = true) : deg y < 0 := deg_neg_iff.2 (fun k hk => by
 unfold eqN at h
 have := List.all_eq_true.1 h k (List.mem_range.2 hk)
 simpa using this)
theorem nez_deg {y : Nat → Nat} (h : eqN 64 y (fun _ => 0) = false) : ¬ deg y < 0 := fun h2 => by
 have h3 := deg_neg_iff.1 h2
 have : eqN 64 y (fun _ => 0) = true := by
  unfold eqN
  rw [List.all_eq_true]
  intro k hk
  rw [h3 k (List.mem_range.1 hk)]; rfl
 rw [this] at h; cases h
attribute [local irreducible] deg lsF frN bzU mmP pmP sng updR eqN addK cnt
set_option maxRecDepth 100000 in
set_option maxHeartbeats 6400000 in
theorem leastSkew_any (p d : Nat) (m : Nat → Nat) (Ls : List (Nat → Nat)) (a : Option Addr) (cap base0 : Nat) (w : World) (hpr : p = 2 ∨ p = 3 ∨ p = 5 ∨ p = 7) (lm : ∀ k, k < 64 → m k < p) (hmon : mon m d) (hi : irr p (cut m) d) (hd1 : 1 ≤ d) (hd4 : d ≤ 4) (hg : ∀ z, z ∈ Ls → rsd p m z) (hlen : (Ls.length : Int) ≤ 1048576) (hL : SlL w base0 28 64 (.slice a Ls.length cap) (plR Ls)) :
 Calls Try.prog 63 #[.agg (fdC (p : Int) m).toArray, .slice a Ls.length cap] w fun e w' => e = .returned (.agg (zb 512 (fl 64 (lqR p m d Ls Ls.length)))) ∧ Below w.heap.size w w' := by
 have p0 : 0 < p := by omega
 have h0 : 0 ≤ deg m := by rw [hmon.1]; omega
 have d9 : d ≤ 9 := by omega
 have hdm : deg m = (d : Int) := hmon.1
 have dm9 : deg m ≤ 9 := by omega
 have HLI := Lib.hid (fun j => lqI_all hpr lm hmon hi d9 hd4 hg j)
 have HGS := Lib.hid hg
 go_enter Try.func63, Try.ntmps63
 go_upto_region 1 with (fail)
 rw [← zero512]
 obtain ⟨W1, hwo⟩ : ∃ v : World, v = ((w.alloc (.cells (fdC (p : Int) m).toArray 70)).alloc (.cells (zb 512 (fl 64 (fun _ _ => 0))) 46)) := ⟨_, rfl⟩
 have B0 : Row W1 (w.heap.size) 70 (fdC (p : Int) m).toArray := by subst hwo; have := ((Row.new w 70 (fdC (p : Int) m).toArray).alloc (.cells (zb 512 (fl 64 (fun _ _ => 0))) 46)); simpa using this
 have B1 : Blk W1 (w.heap.size + 1) 512 46 (fl 64 (fun _ _ => 0)) := by subst hwo; have := (Blk.new (w.alloc (.cells (fdC (p : Int) m).toArray 70)) 512 46 (fl 64 (fun _ _ => 0))); simpa using this
 have hb : Below w.heap.size w W1 := by subst hwo; exact (((Below.refl _ _).alloc (Nat.le_refl _) _).alloc (by simp) _)
 rw [← hwo]
 clear hwo
 have lt_B0 := B0.lt
 have lt_B1 := B1.lt
 go_upto_region 2 with (first | rw [← z64] | rw [← zero512] | (refine zbo rfl 28 _ rfl (zb 64 oneP) (by rw [Array.toList_map]; exact built_one) ?_) | (refine zbo rfl 46 _ rfl (zb 512 (fl 64 (sng 0 oneP))) (by rw [Array.toList_map]; exact built_sk0 oneP) ?_) | (refine wpList_store_blk rfl 46 (.tmp 5) (.tmp 11) rfl _ 512 (fl 64 (sng 0 oneP)) rfl rfl 46 _ ((Blk.new W1 512 46 (fl 64 (fun _ _ => 0)))) Try.size46 ?_; try simp only [Act.put]))
 have lt_B0 := B0.lt
 have lt_B1 := B1.lt
 have lhb := hb.size
 obtain ⟨W2, hwo, hzQ⟩ : ∃ v : World, v = ((W1.alloc (.cells (zb 512 (fl 64 (fun _ _ => 0))) 46)).setRow (W1.heap.size) (zb 512 (fl 64 (sng 0 oneP)))) ∧ Row v (w.heap.size) 70 (fdC (p : Int) m).toArray ∧ Blk v (w.heap.size + 1) 512 46 (fl 64 (fun _ _ => 0)) ∧ Blk v (W1.heap.size) 512 46 (fl 64 (sng 0 oneP)) ∧ Below w.heap.size w v := ⟨_, rfl, ((B0.alloc (.cells (zb 512 (fl 64 (fun _ _ => 0))) 46)).rowOther (by omega)), ((B1.alloc (.cells (zb 512 (fl 64 (fun _ _ => 0))) 46)).rowOther (by omega)), ((Blk.new W1 512 46 (fl 64 (fun _ _ => 0))).row (fl 64 (sng 0 oneP))), (zr (hb.alloc (by have := hb.size; simp; omega) (.cells (zb 512 (fl 64 (fun _ _ => 0))) 46)) (by omega) _)⟩
 rw [← hwo]
 clear hwo B0 B1 hb
 obtain ⟨B0, B1, B2, hb⟩ := hzQ
 obtain ⟨N1, hNN⟩ : ∃ n : Nat, n = W1.heap.size := ⟨_, rfl⟩
 rw [← hNN] at lt_B0 lt_B1 lhb B2 ⊢
 clear hNN
 have zN1_0 := lt_B0
 have zN1_1 := lt_B1
 have zN1 := lhb
 clear lt_B0 lt_B1 lhb
 try simp only [Act.put, pA, pB, pC]
 go_wp2_with fail
 have hl0 : Blk W2 (N1) 512 46 (fl 64 (lqR p m d Ls 0)) := by rw [lqR_z]; exact B2
 clear B2
 go_loopw [14] (fun c wr => ∃ j : Nat, c = .int .i64 (j : Int) ∧ j ≤ Ls.length ∧ Below w.heap.size w wr ∧ Row wr (w.heap.size) 70 (fdC (p : Int) m).toArray ∧ Blk wr (w.heap.size + 1) 512 46 (fl 64 (fun _ _ => 0)) ∧ Blk wr (N1) 512 46 (fl 64 (lqR p m d Ls j))) (fun c _ => Ls.length - (intOf c).toNat)
 case atStart => exact ⟨0, rfl, Nat.zero_le _, hb, B0, B1, hl0⟩
 case round =>
  clear hb B0 B1 hl0
  obtain ⟨j, rfl, hjn, hb, B0, B1, B2⟩ := hrel
  by_cases hj : j < Ls.length
  · have hjI : (j : Int) < (Ls.length : Int) := by omega
    obtain ⟨x, hx⟩ : ∃ x, Ls[j]? = some x := ⟨_, List.getElem?_eq_getElem hj⟩
    obtain ⟨g, rfl⟩ := hL.some (by rw [plR_len]; omega)
    have hrow := plR_at hx
    have hxr := HGS.out x (List.mem_of_getElem? hx)
    have hLI := HLI.out j
    have hNX : lqR p m d Ls (j + 1) = lqS p m d (lqR p m d Ls j) x := lqR_s hx
    obtain ⟨M, hM⟩ : ∃ M, M = lqR p m d Ls j := ⟨_, rfl⟩
    rw [← hM] at hLI hNX
    obtain ⟨y, hy⟩ : ∃ y, y = vlR p m d M x 8 := ⟨_, rfl⟩
    have hyr : rsd p m y := by rw [hy]; exact vlR_rsd hpr lm hmon hi d9 8
    have hNZ : deg y < 0 → lqR p m d Ls (j + 1) = M := fun h => by rw [hNX]; exact lqS_no (by rw [← hy]; exact h)
    have hNS : 0 ≤ deg y → lqR p m d Ls (j + 1) = tmP p m d (lsF p m y) M := fun h => by rw [hNX, lqS_yes (by rw [← hy]; omega), ← hy]
    have hft : 0 ≤ deg y → skD (lsF p m y) + skD M ≤ 7 := fun h => by rw [hy]; exact lq_fit hpr lm hmon hi d9 hd4 hLI hxr (by rw [← hy]; omega)
    have lM : ∀ i, i < 8 → ∀ k, k < 64 → M i k < p := fun i h k hk => (hLI.1 i h).1 k hk
    have HNZ := Lib.hid hNZ
    have HNS := Lib.hid hNS
    have HFT := Lib.hid hft
    have HYR := Lib.hid hyr
    have HLI2 := Lib.hid hLI
    have HVA := Lib.hid (fun W => skValue_any p m M x W hpr lm d hdm hd1 d9 lM hxr hi)
    rw [← hy] at HVA
    rw [← hM] at B2
    clear hx hxr hLI hNX hy hM hNZ hNS hft hyr
    go_upto_region 4 with (fail)
    have lt_B0 := B0.lt
    have lt_B1 := B1.lt
    have lt_B2 := B2.lt
    go_upto_region 5 with (first | rw [← z64] | (refine wpList_load_mid rfl 28 (.tmp 16) rfl _ (j * 64) rfl (bl 64 x) _ ((hL.zw hb).range hrow) Try.underlying28 rfl (by rw [zl]; exact Try.size28) ?_) | (refine wpList_store_blk rfl 28 (.tmp 7) (.tmp 17) rfl _ 64 (x) rfl rfl 28 _ ((Blk.new wr 64 28 (fun _ => 0))) Try.size28 ?_; try simp only [Act.put]))
    have lt_B0 := B0.lt
    have lt_B1 := B1.lt
    have lt_B2 := B2.lt
    have lhb := hb.size
    obtain ⟨W3, hwo, hzQ⟩ : ∃ v : World, v = ((wr.alloc (.cells (zb 64 (fun _ => 0)) 28)).setRow (wr.heap.size) (zb 64 (x))) ∧ Row v (w.heap.size) 70 (fdC (p : Int) m).toArray ∧ Blk v (w.heap.size + 1) 512 46 (fl 64 (fun _ _ => 0)) ∧ Blk v (N1) 512 46 (fl 64 M) ∧ Blk v (wr.heap.size) 64 28 (x) ∧ Below w.heap.size w v := ⟨_, rfl, ((B0.alloc (.cells (zb 64 (fun _ => 0)) 28)).rowOther (by omega)), ((B1.alloc (.cells (zb 64 (fun _ => 0)) 28)).rowOther (by omega)), ((B2.alloc (.cells (zb 64 (fun _ => 0)) 28)).rowOther (by omega)), ((Blk.new wr 64 28 (fun _ => 0)).row (x)), (zr (hb.alloc (by have := hb.size; simp; omega) (.cells (zb 64 (fun _ => 0)) 28)) (by omega) _)⟩
    rw [← hwo]
    clear hwo B0 B1 B2 hb
    obtain ⟨B0, B1, B2, B3, hb⟩ := hzQ
    obtain ⟨N2, hNN⟩ : ∃ n : Nat, n = wr.heap.size := ⟨_, rfl⟩
    rw [← hNN] at lt_B0 lt_B1 lt_B2 lhb B3 ⊢
    clear hNN
    have zN2_0 := lt_B0
    have zN2_1 := lt_B1
    have zN2_2 := lt_B2
    have zN2 := lhb
    clear lt_B0 lt_B1 lt_B2 lhb
    try simp only [Act.put, pA, pB, pC]
    clear hrow
    have lt_B0 := B0.lt
    have lt_B1 := B1.lt
    have lt_B2 := B2.lt
    have lt_B3 := B3.lt
    go_upto_region 6 with (first | rw [← z64] | (refine zla (.tmp 5) B2 Try.underlying46 Try.size46 ?_) | (refine zlr rfl 70 (.tmp 2) rfl _ rfl 70 (fdC (p : Int) m).toArray (B0) _ Try.underlying70 rfl 65 Try.size70 (by simp [fdC_len]) ?_) | (refine zla (.tmp 7) B3 Try.underlying28 Try.size28 ?_) | (go_at_call 75; refine (HVA.out _).mono ?_; rintro e W4 ⟨rfl, hW4⟩; replace B0 := B0.zw hW4; replace B1 := B1.zw hW4; replace B2 := B2.zw hW4; replace B3 := B3.zw hW4; replace hb := (hb).trans (hW4.mono (hb).size)) | (refine wpList_store_blk rfl 28 (.tmp 8) (.tmp 21) rfl _ 64 (y) rfl rfl 28 _ ((Blk.new W4 64 28 (fun _ => 0))) Try.size28 ?_; try simp only [Act.put]))
    have lt_B0 := B0.lt
    have lt_B1 := B1.lt
    have lt_B2 := B2.lt
    have lt_B3 := B3.lt
    have lhb := hb.size
    obtain ⟨W5, hwo, hzQ⟩ : ∃ v : World, v = ((W4.alloc (.cells (zb 64 (fun _ => 0)) 28)).setRow (W4.heap.size) (zb 64 (y))) ∧ Row v (w.heap.size) 70 (fdC (p : Int) m).toArray ∧ Blk v (w.heap.size + 1) 512 46 (fl 64 (fun _ _ => 0)) ∧ Blk v (N1) 512 46 (fl 64 M) ∧ Blk v (N2) 64 28 (x) ∧ Blk v (W4.heap.size) 64 28 (y) ∧ Below w.heap.size w v := ⟨_, rfl, ((B0.alloc (.cells (zb 64 (fun _ => 0)) 28)).rowOther (by omega)), ((B1.alloc (.cells (zb 64 (fun _ => 0)) 28)).rowOther (by omega)), ((B2.alloc (.cells (zb 64 (fun _ => 0)) 28)).rowOther (by omega)), ((B3.alloc (.cells (zb 64 (fun _ => 0)) 28)).rowOther (by omega)), ((Blk.new W4 64 28 (fun _ => 0)).row (y)), (zr (hb.alloc (by have := hb.size; simp; omega) (.cells (zb 64 (fun _ => 0)) 28)) (by omega) _)⟩
    rw [← hwo]
    clear hwo B0 B1 B2 B3 hb
    obtain ⟨B0, B1, B2, B3, B4, hb⟩ := hzQ
    obtain ⟨N3, hNN⟩ : ∃ n : Nat, n = W4.heap.size := ⟨_, rfl⟩
    rw [← hNN] at lt_B0 lt_B1 lt_B2 lt_B3 lhb B4 ⊢
    clear hNN
    have zN3_0 := lt_B0
    have zN3_1 := lt_B1
    have zN3_2 := lt_B2
    have zN3_3 := lt_B3
    have zN3 := lhb
    clear lt_B0 lt_B1 lt_B2 lt_B3 lhb
    try simp only [Act.put, pA, pB, pC]
    cases hz : eqN 64 y (fun _ => 0) with
    | true =>
     have heq := fun W => zeb (P := Try.prog) W 9998 28 5 64 y (fun _ => 0) Try.underlying28 Try.underlying5 Try.size5
     rw [hz] at heq
     go_wp2_with (first | rw [← z64] | (refine zla (.tmp 8) B4 Try.underlying28 Try.size28 ?_))
     go_roundw
     case rel => exact ⟨j + 1, by go_num, by omega, hb, B0, B1, by rw [HNZ.out (eqz_deg hz)]; exact B2⟩
     case measure => simp [intOf] <;> omega
    | false =>
     have heq := fun W => zeb (P := Try.prog) W 9998 28 5 64 y (fun _ => 0) Try.underlying28 Try.underlying5 Try.size5
     rw [hz] at heq
     go_upto_region 7 with (first | rw [← z64] | (refine zla (.tmp 8) B4 Try.underlying28 Try.size28 ?_))
     clear heq
     have hnz : 0 ≤ deg y := by have := nez_deg hz; omega
     have HFR := Lib.hid (fun W => kfrob_any p m y 1 W hpr lm d hdm hd1 d9 (by decide) HYR.out)
     have HQU := Lib.hid (fun W => quotient_any p m (frN p m y (1 % d)) y W hpr lm h0 (frN_ok hpr lm h0 dm9 HYR.out (1 % d)).1.1 HYR.out.1)
     obtain ⟨r, hr⟩ : ∃ r, r = mmP p (frN p m y (1 % d)) (bzU p y m) m := ⟨_, rfl⟩
     have hre := ratio_eq hpr lm hmon hi d9 HYR.out (by omega)
     rw [← hr] at hre HQU
     have hpl : ∀ k, k < 64 → pmP p y (p - 1) m k < p := (pm_rsd hpr lm hmon hi d9 HYR.out).1
     have hrl : ∀ k, k < 64 → r k < p := fun k hk => by rw [hre k hk]; exact hpl k hk
     obtain ⟨C, hC⟩ : ∃ C, C = addK p (fun _ => 0) (pmP p y (p - 1) m) (-1) := ⟨_, rfl⟩
     have HDF := Lib.hid (show ∀ W, Calls Try.prog 59 #[.int .i64 (p : Int), .agg (zb 64 fun _ => 0), .agg (zb 64 r)] W (fun e w' => e = .returned (.agg (zb 64 C)) ∧ Below W.heap.size W w') from fun W => by
      have := difference_any p (fun _ => 0) r W (by omega) (by omega) (fun k _ => p0) hrl
      rw [zbc (sub_addq (x := fun _ => 0) p0 hrl)] at this
      rw [show zb 64 (addK p (fun _ => 0) r (-1)) = zb 64 C from zbc (fun k hk => by rw [hC]; unfold addK; rw [hre k hk])] at this
      exact this)
     have hls : updR (sng 0 C) 1 oneP = lsF p m y := by rw [hC]; exact lsF_eq p m y
     have HTI := Lib.hid (show ∀ W, Calls Try.prog 111 #[.agg (zb 512 (fl 64 (updR (sng 0 C) 1 oneP))), .agg (fdC (p : Int) m).toArray, .agg (zb 512 (fl 64 M))] W (fun e w' => e = .returned (.agg (zb 512 (fl 64 (tmP p m d (lsF p m y) M)))) ∧ Below W.heap.size W w') from fun W => by
      rw [hls]
      exact skTimes_any p m (lsF p m y) M W hpr lm d hdm hd1 d9 (fun i h k hk => (lsF_rsk hpr lm hmon hi d9 HYR.out i h).1 k hk) (fun i h => HLI2.out.1 i h) (HFT.out hnz))
     have HN9 := Lib.hid (HNS.out hnz)
     clear hre hr hC hls hrl hpl hnz hz HNS HNZ HFT
     have lt_B0 : (w.heap.size) < W5.heap.size := B0.lt
     have lt_B1 : (w.heap.size + 1) < W5.heap.size := B1.lt
     have lt_B2 : (N1) < W5.heap.size := B2.lt
     have lt_B3 : (N2) < W5.heap.size := B3.lt
     have lt_B4 : (N3) < W5.heap.size := B4.lt
     refine zq Try.mixed (by kernel_rfl) (by kernel_rfl) (fun v => by (simp only [frL, Act.put, pA, pB, pC, Nat.reduceAdd, Nat.zero_add]; exact rfl))
      (fun L v W6 => Below W5.heap.size W5 W6 ∧ (L 6 = true → AF (v 6) W6 W5.heap.size 64 28) ∧ (L 7 = true → PF (v 6) W6 W5.heap.size 64 28 (r)) ∧ VF L v [some (.agg (fdC (p : Int) m).toArray), some (.agg (fdC (p : Int) m).toArray), some (.agg (zb 64 (y))), some (.agg (zb 64 (frN p m y (1 % d)))), some (.agg (zb 64 (y))), some (.agg (zb 64 (r))), none, none]) ?_ ?_ ?_
     · intro v hv0
       exact ⟨(Below.refl _ W5).drew, (fun h => by cases h), (fun h => by cases h), VF.start⟩
     · refine (.cons rfl ?_ (.cons rfl ?_ (.cons rfl ?_ (.cons rfl ?_ (.cons rfl ?_ (.cons rfl ?_ (.cons rfl ?_ (.cons rfl ?_ (.nil _)))))))))
       all_goals intro L v W6 hd hn ⟨hY, h6, h7, V⟩ K hK
       · refine wp_load_rowv 70 _ rfl _ rfl 70 _ (B0.zw hY) _ Try.underlying70 rfl 65 Try.size70 (by simp [fdC_len]) ?_
         exact hK _ _ _ rfl ⟨hY, h6, h7, V.step 0 rfl⟩
       · refine wp_load_rowv 70 _ rfl _ rfl 70 _ (B0.zw hY) _ Try.underlying70 rfl 65 Try.size70 (by simp [fdC_len]) ?_
         exact hK _ _ _ rfl ⟨hY, h6, h7, V.step 1 rfl⟩
       · refine zlc (B4.zw hY) Try.underlying28 Try.size28 ?_
         exact hK _ _ _ rfl ⟨hY, h6, h7, V.step 2 rfl⟩
       · have e1 := V.at (zdq hd 1 rfl) rfl
         have e2 := V.at (zdq hd 2 rfl) rfl
         go_wp2_with (go_at_call 93; refine (HFR.out _).mono ?_; rintro e wy ⟨rfl, hy⟩)
         exact hK _ (.agg (zb 64 (frN p m y (1 % d)))) _ (by simp only [Act.put, pA, pB, pC, e1, e2]) ⟨hY.trans (hy.mono hY.size), (fun h => (h6 h).below hy), (fun h => (h7 h).below hy), V.step 3 rfl⟩
       · refine zlc (B4.zw hY) Try.underlying28 Try.size28 ?_
         exact hK _ _ _ rfl ⟨hY, h6, h7, V.step 4 rfl⟩
       · have e0 := V.at (zdq hd 0 rfl) rfl
         have e3 := V.at (zdq hd 3 rfl) rfl
         have e4 := V.at (zdq hd 4 rfl) rfl
         go_wp2_with (go_at_call 110; refine (HQU.out _).mono ?_; rintro e wy ⟨rfl, hy⟩)
         exact hK _ (.agg (zb 64 (r))) _ (by simp only [Act.put, pA, pB, pC, e0, e3, e4]) ⟨hY.trans (hy.mono hY.size), (fun h => (h6 h).below hy), (fun h => (h7 h).below hy), V.step 5 rfl⟩
       · go_wp2_with fail
         rw [← z64]
         exact hK _ (.pointer (some ⟨W6.heap.size, 0, none⟩)) _ (by simp only [Act.put, pA, pB, pC ]) ⟨hY.alloc hY.size _, (fun _ => (PF.new W6 64 28 _ hY.size).af), (fun h => absurd rfl (hn 7 _ rfl h ⟨6, .data⟩ (by simp) rfl)), V.skip 6 rfl⟩
       · have e5 := V.at (zdq hd 5 rfl) rfl
         obtain ⟨gz, b, ea, hN, hk⟩ := (h6 (zdq hd 6 rfl)).out
         refine zsb 28 _ _ rfl b 64 (r) ea e5 28 gz hk Try.size28 ?_
         exact hK _ undef _ rfl ⟨zr hY hN _, (fun h => (h6 h).row hk), (fun _ => by rw [show updV v 7 undef 6 = v 6 from rfl, ea]; exact PF.row hk hN _), V.skip 7 rfl⟩
     · intro L v W6 hL ⟨hY, h6, h7, V⟩
       obtain ⟨k7_6, e6, hNk7_6, hk7_6⟩ := (h7 (hL 7 (by decide))).out
       have e0 := V.at (hL 0 (by decide)) rfl
       have e1 := V.at (hL 1 (by decide)) rfl
       have e2 := V.at (hL 2 (by decide)) rfl
       have e3 := V.at (hL 3 (by decide)) rfl
       have e4 := V.at (hL 4 (by decide)) rfl
       have e5 := V.at (hL 5 (by decide)) rfl
       clear hL h6 h7 V
       replace B0 := B0.zw hY
       replace B1 := B1.zw hY
       replace B2 := B2.zw hY
       replace B3 := B3.zw hY
       replace B4 := B4.zw hY
       replace hb := hb.trans (hY.mono hb.size)
       clear hY
       simp only [Exit.then, e6, e0, e1, e2, e3, e4, e5]
       clear e6 e0 e1 e2 e3 e4 e5
       have B5 := hk7_6
       clear hk7_6
       have zk7_6_0 : w.heap.size < k7_6 := by omega
       have zk7_6_1 : w.heap.size + 1 < k7_6 := by omega
       have zk7_6_2 : N1 < k7_6 := by omega
       have zk7_6_3 : N2 < k7_6 := by omega
       have zk7_6_4 : N3 < k7_6 := by omega
       clear lt_B0 lt_B1 lt_B2 lt_B3 lt_B4
       go_upto_region 8 with (fail)
       have lt_B0 : (w.heap.size) < W6.heap.size := B0.lt
       have lt_B1 : (w.heap.size + 1) < W6.heap.size := B1.lt
       have lt_B2 : (N1) < W6.heap.size := B2.lt
       have lt_B3 : (N2) < W6.heap.size := B3.lt
       have lt_B4 : (N3) < W6.heap.size := B4.lt
       have lt_B5 : (k7_6) < W6.heap.size := B5.lt
       have hbase : w.heap.size ≤ W6.heap.size := hb.size
       refine zq Try.mixed (by kernel_rfl) (by kernel_rfl) (fun v => by (simp only [frL, Act.put, pA, pB, pC, Nat.reduceAdd, Nat.zero_add]; exact rfl))
        (fun L v W7 => Below w.heap.size w W7 ∧ Kx [N1] W6 W7 ∧ (∃ g, Blk W7 (N1) 512 46 (g)) ∧ (L 10 = false → Blk W7 (N1) 512 46 (fl 64 M)) ∧ (L 10 = true → Blk W7 (N1) 512 46 (fl 64 (tmP p m d (lsF p m y) M))) ∧ VF L v [some (.pointer (some ⟨w.heap.size, 0, none⟩)), some (.int .i64 (p : Int)), some (.agg (zb 64 (fun _ => 0))), some (.agg (zb 64 (r))), some (.agg (zb 64 (C))), some (.agg (zb 64 (oneP))), some (.agg (zb 512 (fl 64 (updR (sng 0 C) 1 oneP)))), some (.agg (fdC (p : Int) m).toArray), some (.agg (zb 512 (fl 64 M))), some (.agg (zb 512 (fl 64 (tmP p m d (lsF p m y) M)))), none]) ?_ ?_ ?_
       · intro v hv0
         exact ⟨hb.drew, Kx.start _ _, ⟨_, B2.drew⟩, (fun _ => B2.drew), (fun h => by cases h), VF.start⟩
       · refine (.cons rfl ?_ (.cons rfl ?_ (.cons rfl ?_ (.cons rfl ?_ (.cons rfl ?_ (.cons rfl ?_ (.cons rfl ?_ (.cons rfl ?_ (.cons rfl ?_ (.cons rfl ?_ (.cons rfl ?_ (.nil _))))))))))))
         all_goals intro L v W7 hd hn ⟨hB, hX, x2, q2, n2, V⟩ K hK
         · go_wp2_with fail
           exact hK _ (.pointer (some ⟨w.heap.size, 0, none⟩)) _ (by simp only [Act.put, pA, pB, pC ]) ⟨hB, hX, x2, q2, n2, V.step 0 rfl⟩
         · have e0 := V.at (zdq hd 0 rfl) rfl
           have cc := (B0.kx hX (by simp <;> omega)).cell (i := 0) (v := .int .i64 (p : Int)) (fdC_at (p : Int) m)
           go_wp2_with fail
           exact hK _ (.int .i64 (p : Int)) _ (by simp only [Act.put, pA, pB, pC, e0]) ⟨hB, hX, x2, q2, n2, V.step 1 rfl⟩
         · go_wp2_with fail
           rw [← z64]
           exact hK _ (.agg (zb 64 (fun _ => 0))) _ (by simp only [Act.put, pA, pB, pC ]) ⟨hB, hX, x2, q2, n2, V.step 2 rfl⟩
         · refine wp_load_any 28 _ rfl _ rfl 64 28 _ (B5.kx hX (by simp <;> omega)) _ Try.underlying28 rfl Try.size28 ?_
           exact hK _ _ _ rfl ⟨hB, hX, x2, q2, n2, V.step 3 rfl⟩
         · have e1 := V.at (zdq hd 1 rfl) rfl
           have e2 := V.at (zdq hd 2 rfl) rfl
           have e3 := V.at (zdq hd 3 rfl) rfl
           go_wp2_with (go_at_call 59; refine (HDF.out _).mono ?_; rintro e wy ⟨rfl, hy⟩)
           exact hK _ (.agg (zb 64 (C))) _ (by simp only [Act.put, pA, pB, pC, e1, e2, e3]) ⟨hB.trans (hy.mono hB.size), hX.below hy, (let ⟨g, h⟩ := x2; ⟨g, h.zw hy⟩), (fun h => (q2 h).below hy (q2 h).lt), (fun h => (n2 h).below hy (n2 h).lt), V.step 4 rfl⟩
         · refine wp_build_of 28 _ rfl (zb 64 oneP) (by rw [Array.toList_map]; exact built_one) ?_
           exact hK _ _ _ rfl ⟨hB, hX, x2, q2, n2, V.step 5 rfl⟩
         · have e4 := V.at (zdq hd 4 rfl) rfl
           have e5 := V.at (zdq hd 5 rfl) rfl
           refine wp_build_of 46 _ rfl (zb 512 (fl 64 (updR (sng 0 C) 1 oneP))) (by rw [Array.toList_map]; simp only [e4, e5, Act.eval]; exact built_ls _) ?_
           exact hK _ _ _ rfl ⟨hB, hX, x2, q2, n2, V.step 6 rfl⟩
         · refine wp_load_rowv 70 _ rfl _ rfl 70 _ (B0.kx hX (by simp <;> omega)) _ Try.underlying70 rfl 65 Try.size70 (by simp [fdC_len]) ?_
           exact hK _ _ _ rfl ⟨hB, hX, x2, q2, n2, V.step 7 rfl⟩
         · have s2 := q2 (by
            cases hL : L 10 with
            | false => rfl
            | true => exact absurd rfl (hn 10 _ rfl hL ⟨8, .phase⟩ (by simp) rfl))
           refine zlc s2 Try.underlying46 Try.size46 ?_
           exact hK _ _ _ rfl ⟨hB, hX, x2, q2, n2, V.step 8 rfl⟩
         · have e6 := V.at (zdq hd 6 rfl) rfl
           have e7 := V.at (zdq hd 7 rfl) rfl
           have e8 := V.at (zdq hd 8 rfl) rfl
           go_wp2_with (go_at_call 111; refine (HTI.out _).mono ?_; rintro e wy ⟨rfl, hy⟩)
           exact hK _ (.agg (zb 512 (fl 64 (tmP p m d (lsF p m y) M)))) _ (by simp only [Act.put, pA, pB, pC, e6, e7, e8]) ⟨hB.trans (hy.mono hB.size), hX.below hy, (let ⟨g, h⟩ := x2; ⟨g, h.zw hy⟩), (fun h => (q2 h).below hy (q2 h).lt), (fun h => (n2 h).below hy (n2 h).lt), V.step 9 rfl⟩
         · have e9 := V.at (zdq hd 9 rfl) rfl
           obtain ⟨gz, hk⟩ := x2
           refine zsb 46 _ _ rfl _ 512 (fl 64 (tmP p m d (lsF p m y) M)) rfl e9 46 gz hk Try.size46 ?_
           exact hK _ undef _ rfl ⟨zr hB (by omega) _, hX.row (by simp) _, ⟨_, hk.row _⟩, (fun h => absurd h (by simp [setL])), (fun _ => hk.row _), V.skip 10 rfl⟩
       · intro L v W7 hL ⟨hB, hX, x2, q2, n2, V⟩
         have r2 := n2 (hL 10 (by decide))
         have e0 := V.at (hL 0 (by decide)) rfl
         have e1 := V.at (hL 1 (by decide)) rfl
         have e2 := V.at (hL 2 (by decide)) rfl
         have e3 := V.at (hL 3 (by decide)) rfl
         have e4 := V.at (hL 4 (by decide)) rfl
         have e5 := V.at (hL 5 (by decide)) rfl
         have e6 := V.at (hL 6 (by decide)) rfl
         have e7 := V.at (hL 7 (by decide)) rfl
         have e8 := V.at (hL 8 (by decide)) rfl
         have e9 := V.at (hL 9 (by decide)) rfl
         clear hL x2 q2 n2 V
         replace B0 := B0.kx hX (by simp <;> omega)
         replace B1 := B1.kx hX (by simp <;> omega)
         replace B3 := B3.kx hX (by simp <;> omega)
         replace B4 := B4.kx hX (by simp <;> omega)
         replace B5 := B5.kx hX (by simp <;> omega)
         clear hX
         simp only [Exit.then, e0, e1, e2, e3, e4, e5, e6, e7, e8, e9]
         clear e0 e1 e2 e3 e4 e5 e6 e7 e8 e9
         replace B2 := r2
         clear r2
         replace hb := hB
         clear hB
         clear hbase lt_B0 lt_B1 lt_B2 lt_B3 lt_B4 lt_B5
         go_wp2_with fail
         go_roundw
         case rel => exact ⟨j + 1, by go_num, by omega, hb, B0, B1, by rw [HN9.out]; exact B2⟩
         case measure => simp [intOf] <;> omega
  · have hjI : ¬ (j : Int) < (Ls.length : Int) := by omega
    obtain rfl : j = Ls.length := by omega
    go_upto_region 10 with (fail)
    have lt_B0 := B0.lt
    have lt_B1 := B1.lt
    have lt_B2 := B2.lt
    go_wp2_with (first | rw [← z64] | rw [← zero512] | (refine zla (.tmp 5) B2 Try.underlying46 Try.size46 ?_) | (refine zsr (.tmp 4) (.tmp 42) (fl 64 (lqR p m d Ls Ls.length)) B1 Try.size46 ?_; try simp only [Act.put]))
    obtain ⟨W3, hwo, hzQ⟩ : ∃ v : World, v = (wr.setRow (w.heap.size + 1) (zb 512 (fl 64 (lqR p m d Ls Ls.length)))) ∧ Row v (w.heap.size) 70 (fdC (p : Int) m).toArray ∧ Blk v (w.heap.size + 1) 512 46 (fl 64 (lqR p m d Ls Ls.length)) ∧ Blk v (N1) 512 46 (fl 64 (lqR p m d Ls Ls.length)) ∧ Below w.heap.size w v := ⟨_, rfl, (B0.rowOther (by omega)), (B1.row (fl 64 (lqR p m d Ls Ls.length))), (B2.rowOther (by omega)), (zr hb (by omega) _)⟩
    rw [← hwo]
    clear hwo B0 B1 B2 hb
    obtain ⟨B0, B1, B2, hb⟩ := hzQ
    try simp only [Act.put, pA, pB, pC]
    refine bodyPost_ret (results_any rfl _ _ _ 512 _ _ rfl B1 _ Try.underlying46 rfl Try.size46) rfl ⟨rfl, hb⟩
set_option maxRecDepth 100000 in
set_option maxHeartbeats 6400000 in
theorem l03Least_any (p d : Nat) (m : Nat → Nat) (Ls : List (Nat → Nat)) (a : Option Addr) (cap base0 : Nat) (w : World) (hpr : p = 2 ∨ p = 3 ∨ p = 5 ∨ p = 7) (lm : ∀ k, k < 64 → m k < p) (hmon : mon m d) (hi : irr p (cut m) d) (hd1 : 1 ≤ d) (hd4 : d ≤ 4) (hg : ∀ z, z ∈ Ls → rsd p m z) (hlen : (Ls.length : Int) ≤ 1048576) (hL : SlL w base0 28 64 (.slice a Ls.length cap) (plR Ls)) :
 Calls Try.prog 62 #[.int .i64 (p : Int), .agg (zb 64 m), .slice a Ls.length cap] w fun e w' => e = .returned (.agg (zb 512 (fl 64 (lqR p m d Ls Ls.length)))) ∧ Below w.heap.size w w' := by
 have p0 : 0 < p := by omega
 have h0 : 0 ≤ deg m := by rw [hmon.1]; omega
 have d9 : d ≤ 9 := by omega
 have hdm : deg m = (d : Int) := hmon.1
 have dm9 : deg m ≤ 9 := by omega
 have HLI := Lib.hid (fun j => lqI_all hpr lm hmon hi d9 hd4 hg j)
 have HGS := Lib.hid hg
 go_enter Try.func62, Try.ntmps62
 go_upto_region 1 with (fail)
 rw [← zero512]
 obtain ⟨W1, hwo⟩ : ∃ v : World, v = ((w.alloc (.cells (zb 64 (m)) 28)).alloc (.cells (zb 512 (fl 64 (fun _ _ => 0))) 46)) := ⟨_, rfl⟩
 have B0 : Blk W1 (w.heap.size) 64 28 (m) := by subst hwo; have := ((Blk.new w 64 28 (m)).alloc (.cells (zb 512 (fl 64 (fun _ _ => 0))) 46)); simpa using this
 have B1 : Blk W1 (w.heap.size + 1) 512 46 (fl 64 (fun _ _ => 0)) := by subst hwo; have := (Blk.new (w.alloc (.cells (zb 64 (m)) 28)) 512 46 (fl 64 (fun _ _ => 0))); simpa using this
 have hb : Below w.heap.size w W1 := by subst hwo; exact (((Below.refl _ _).alloc (Nat.le_refl _) _).alloc (by simp) _)
 rw [← hwo]
 clear hwo
 have lt_B0 := B0.lt
 have lt_B1 := B1.lt
 go_upto_region 2 with (first | rw [← z64] | rw [← zero512] | (go_at_call 104; refine (l03One_any _).mono ?_; rintro e W2 ⟨rfl, hW2⟩; replace B0 := B0.zw hW2; replace B1 := B1.zw hW2; replace hb := (hb).trans (hW2.mono (hb).size)) | (refine wpList_store_blk rfl 46 (.tmp 7) (.tmp 13) rfl _ 512 (fl 64 (sng 0 oneP)) rfl rfl 46 _ ((Blk.new W2 512 46 (fl 64 (fun _ _ => 0)))) Try.size46 ?_; try simp only [Act.put]))
 have lt_B0 := B0.lt
 have lt_B1 := B1.lt
 have lhb := hb.size
 obtain ⟨W3, hwo, hzQ⟩ : ∃ v : World, v = ((W2.alloc (.cells (zb 512 (fl 64 (fun _ _ => 0))) 46)).setRow (W2.heap.size) (zb 512 (fl 64 (sng 0 oneP)))) ∧ Blk v (w.heap.size) 64 28 (m) ∧ Blk v (w.heap.size + 1) 512 46 (fl 64 (fun _ _ => 0)) ∧ Blk v (W2.heap.size) 512 46 (fl 64 (sng 0 oneP)) ∧ Below w.heap.size w v := ⟨_, rfl, ((B0.alloc (.cells (zb 512 (fl 64 (fun _ _ => 0))) 46)).rowOther (by omega)), ((B1.alloc (.cells (zb 512 (fl 64 (fun _ _ => 0))) 46)).rowOther (by omega)), ((Blk.new W2 512 46 (fl 64 (fun _ _ => 0))).row (fl 64 (sng 0 oneP))), (zr (hb.alloc (by have := hb.size; simp; omega) (.cells (zb 512 (fl 64 (fun _ _ => 0))) 46)) (by omega) _)⟩
 rw [← hwo]
 clear hwo B0 B1 hb
 obtain ⟨B0, B1, B2, hb⟩ := hzQ
 obtain ⟨N1, hNN⟩ : ∃ n : Nat, n = W2.heap.size := ⟨_, rfl⟩
 rw [← hNN] at lt_B0 lt_B1 lhb B2 ⊢
 clear hNN
 have zN1_0 := lt_B0
 have zN1_1 := lt_B1
 have zN1 := lhb
 clear lt_B0 lt_B1 lhb
 try simp only [Act.put, pA, pB, pC]
 go_wp2_with fail
 have hl0 : Blk W3 (N1) 512 46 (fl 64 (lqR p m d Ls 0)) := by rw [lqR_z]; exact B2
 clear B2
 go_loopw [8] (fun c wr => ∃ j : Nat, c = .int .i64 (j : Int) ∧ j ≤ Ls.length ∧ Below w.heap.size w wr ∧ Blk wr (w.heap.size) 64 28 (m) ∧ Blk wr (w.heap.size + 1) 512 46 (fl 64 (fun _ _ => 0)) ∧ Blk wr (N1) 512 46 (fl 64 (lqR p m d Ls j))) (fun c _ => Ls.length - (intOf c).toNat)
 case atStart => exact ⟨0, rfl, Nat.zero_le _, hb, B0, B1, hl0⟩
 case round =>
  clear hb B0 B1 hl0
  obtain ⟨j, rfl, hjn, hb, B0, B1, B2⟩ := hrel
  by_cases hj : j < Ls.length
  · have hjI : (j : Int) < (Ls.length : Int) := by omega
    obtain ⟨x, hx⟩ : ∃ x, Ls[j]? = some x := ⟨_, List.getElem?_eq_getElem hj⟩
    obtain ⟨g, rfl⟩ := hL.some (by rw [plR_len]; omega)
    have hrow := plR_at hx
    have hxr := HGS.out x (List.mem_of_getElem? hx)
    have hLI := HLI.out j
    have hNX : lqR p m d Ls (j + 1) = lqS p m d (lqR p m d Ls j) x := lqR_s hx
    obtain ⟨M, hM⟩ : ∃ M, M = lqR p m d Ls j := ⟨_, rfl⟩
    rw [← hM] at hLI hNX
    obtain ⟨y, hy⟩ : ∃ y, y = vlR p m d M x 8 := ⟨_, rfl⟩
    have hyr : rsd p m y := by rw [hy]; exact vlR_rsd hpr lm hmon hi d9 8
    have hNZ : deg y < 0 → lqR p m d Ls (j + 1) = M := fun h => by rw [hNX]; exact lqS_no (by rw [← hy]; exact h)
    have hNS : 0 ≤ deg y → lqR p m d Ls (j + 1) = tmP p m d (lsF p m y) M := fun h => by rw [hNX, lqS_yes (by rw [← hy]; omega), ← hy]
    have hft : 0 ≤ deg y → skD (lsF p m y) + skD M ≤ 7 := fun h => by rw [hy]; exact lq_fit hpr lm hmon hi d9 hd4 hLI hxr (by rw [← hy]; omega)
    have lM : ∀ i, i < 8 → ∀ k, k < 64 → M i k < p := fun i h k hk => (hLI.1 i h).1 k hk
    have HNZ := Lib.hid hNZ
    have HNS := Lib.hid hNS
    have HFT := Lib.hid hft
    have HYR := Lib.hid hyr
    have HLI2 := Lib.hid hLI
    have HVA := Lib.hid (fun W => l03Value_any p m M x W hpr lm d hdm hd1 d9 lM hxr)
    rw [← hy] at HVA
    rw [← hM] at B2
    clear hx hxr hLI hNX hy hM hNZ hNS hft hyr
    go_upto_region 5 with (fail)
    have lt_B0 : (w.heap.size) < wr.heap.size := B0.lt
    have lt_B1 : (w.heap.size + 1) < wr.heap.size := B1.lt
    have lt_B2 : (N1) < wr.heap.size := B2.lt
    refine zq Try.mixed (by kernel_rfl) (by kernel_rfl) (fun v => by (simp only [frL, Act.put, pA, pB, pC, Nat.reduceAdd, Nat.zero_add]; exact rfl))
     (fun L v W4 => Below wr.heap.size wr W4 ∧ (L 8 = true → AF (v 8) W4 wr.heap.size 64 28) ∧ (L 9 = true → PF (v 8) W4 wr.heap.size 64 28 (y)) ∧ VF L v [some (.int .i64 (p : Int)), some (.agg (zb 64 (m))), some (.agg (zb 512 (fl 64 M))), some (.slice (some ⟨g, 0, none⟩) Ls.length cap), some (.int .i64 (j : Int)), some (.pointer (some ⟨g, j * 64, none⟩)), some (.agg (zb 64 (x))), some (.agg (zb 64 (y))), none, none]) ?_ ?_ ?_
    · intro v hv0
      exact ⟨(Below.refl _ wr).drew, (fun h => by cases h), (fun h => by cases h), VF.start⟩
    · refine (.cons rfl ?_ (.cons rfl ?_ (.cons rfl ?_ (.cons rfl ?_ (.cons rfl ?_ (.cons rfl ?_ (.cons rfl ?_ (.cons rfl ?_ (.cons rfl ?_ (.cons rfl ?_ (.nil _)))))))))))
      all_goals intro L v W4 hd hn ⟨hY, h8, h9, V⟩ K hK
      · go_wp2_with fail
        exact hK _ (.int .i64 (p : Int)) _ (by simp only [Act.put, pA, pB, pC ]) ⟨hY, h8, h9, V.step 0 rfl⟩
      · refine zlc (B0.zw hY) Try.underlying28 Try.size28 ?_
        exact hK _ _ _ rfl ⟨hY, h8, h9, V.step 1 rfl⟩
      · refine zlc (B2.zw hY) Try.underlying46 Try.size46 ?_
        exact hK _ _ _ rfl ⟨hY, h8, h9, V.step 2 rfl⟩
      · go_wp2_with fail
        exact hK _ (.slice (some ⟨g, 0, none⟩) Ls.length cap) _ (by simp only [Act.put, pA, pB, pC ]) ⟨hY, h8, h9, V.step 3 rfl⟩
      · go_wp2_with fail
        exact hK _ (.int .i64 (j : Int)) _ (by simp only [Act.put, pA, pB, pC ]) ⟨hY, h8, h9, V.step 4 rfl⟩
      · have e3 := V.at (zdq hd 3 rfl) rfl
        have e4 := V.at (zdq hd 4 rfl) rfl
        go_wp2_with fail
        exact hK _ (.pointer (some ⟨g, j * 64, none⟩)) _ (by simp only [Act.put, pA, pB, pC, e3, e4]) ⟨hY, h8, h9, V.step 5 rfl⟩
      · have e5 := V.at (zdq hd 5 rfl) rfl
        refine wp_load_mid 28 _ rfl _ (j * 64) e5 _ _ ((hL.below (by first | exact hB | exact hb.trans (hY.mono hb.size)) hL.lt).range hrow) Try.underlying28 rfl (by rw [zl]; exact Try.size28) ?_
        exact hK _ _ _ rfl ⟨hY, h8, h9, V.step 6 rfl⟩
      · have e0 := V.at (zdq hd 0 rfl) rfl
        have e1 := V.at (zdq hd 1 rfl) rfl
        have e2 := V.at (zdq hd 2 rfl) rfl
        have e6 := V.at (zdq hd 6 rfl) rfl
        go_wp2_with (go_at_call 105; refine (HVA.out _).mono ?_; rintro e wy ⟨rfl, hy⟩)
        exact hK _ (.agg (zb 64 (y))) _ (by simp only [Act.put, pA, pB, pC, e0, e1, e2, e6]) ⟨hY.trans (hy.mono hY.size), (fun h => (h8 h).below hy), (fun h => (h9 h).below hy), V.step 7 rfl⟩
      · go_wp2_with fail
        rw [← z64]
        exact hK _ (.pointer (some ⟨W4.heap.size, 0, none⟩)) _ (by simp only [Act.put, pA, pB, pC ]) ⟨hY.alloc hY.size _, (fun _ => (PF.new W4 64 28 _ hY.size).af), (fun h => absurd rfl (hn 9 _ rfl h ⟨8, .data⟩ (by simp) rfl)), V.skip 8 rfl⟩
      · have e7 := V.at (zdq hd 7 rfl) rfl
        obtain ⟨gz, b, ea, hN, hk⟩ := (h8 (zdq hd 8 rfl)).out
        refine zsb 28 _ _ rfl b 64 (y) ea e7 28 gz hk Try.size28 ?_
        exact hK _ undef _ rfl ⟨zr hY hN _, (fun h => (h8 h).row hk), (fun _ => by rw [show updV v 9 undef 8 = v 8 from rfl, ea]; exact PF.row hk hN _), V.skip 9 rfl⟩
    · intro L v W4 hL ⟨hY, h8, h9, V⟩
      obtain ⟨k5_8, e8, hNk5_8, hk5_8⟩ := (h9 (hL 9 (by decide))).out
      have e0 := V.at (hL 0 (by decide)) rfl
      have e1 := V.at (hL 1 (by decide)) rfl
      have e2 := V.at (hL 2 (by decide)) rfl
      have e3 := V.at (hL 3 (by decide)) rfl
      have e4 := V.at (hL 4 (by decide)) rfl
      have e5 := V.at (hL 5 (by decide)) rfl
      have e6 := V.at (hL 6 (by decide)) rfl
      have e7 := V.at (hL 7 (by decide)) rfl
      clear hL h8 h9 V
      replace B0 := B0.zw hY
      replace B1 := B1.zw hY
      replace B2 := B2.zw hY
      replace hb := hb.trans (hY.mono hb.size)
      clear hY
      simp only [Exit.then, e8, e0, e1, e2, e3, e4, e5, e6, e7]
      clear e8 e0 e1 e2 e3 e4 e5 e6 e7
      have B3 := hk5_8
      clear hk5_8
      have zk5_8_0 : w.heap.size < k5_8 := by omega
      have zk5_8_1 : w.heap.size + 1 < k5_8 := by omega
      have zk5_8_2 : N1 < k5_8 := by omega
      clear lt_B0 lt_B1 lt_B2
      go_upto_region 6 with (fail)
      clear hrow
      obtain ⟨D, hD⟩ : ∃ D, D = deg y := ⟨_, rfl⟩
      have HDG := Lib.hid (show ∀ W, Calls Try.prog _ _ W (fun e w' => e = .returned (.int .i64 D) ∧ Below W.heap.size W w') from fun W => hD ▸ l01Deg_any y W)
      have HD := Lib.hid hD
      have hDb := zdb y
      rw [← hD] at hDb
      clear hD
      by_cases hneg : D < 0
      · skip
        go_wp2_with (first | (refine zla (.tmp 9) B3 Try.underlying28 Try.size28 ?_) | (go_at_call 106; refine (HDG.out _).mono ?_; rintro e W5 ⟨rfl, hW5⟩; replace B0 := B0.zw hW5; replace B1 := B1.zw hW5; replace B2 := B2.zw hW5; replace B3 := B3.zw hW5; replace hb := (hb).trans (hW5.mono (hb).size)))
        go_roundw
        case rel => exact ⟨j + 1, by go_num, by omega, hb, B0, B1, by rw [HNZ.out (by rw [← HD.out]; exact hneg)]; exact B2⟩
        case measure => simp [intOf] <;> omega
      · have hnz : 0 ≤ deg y := by rw [← HD.out]; omega
        obtain ⟨Q, hQ⟩ : ∃ Q, p - 1 = Q := ⟨_, rfl⟩
        have hpQ : (p : Int) - 1 = (Q : Int) := by omega
        have HPM := Lib.hid (fun W => l01PowMod_any p y Q m W hpr HYR.out.1 lm h0 (by omega))
        have hpl : ∀ k, k < 64 → pmP p y Q m k < p := hQ ▸ (pm_rsd hpr lm hmon hi d9 HYR.out).1
        obtain ⟨C, hC⟩ : ∃ C, C = addK p (fun _ => 0) (pmP p y Q m) (-1) := ⟨_, rfl⟩
        have HAD := Lib.hid (fun W => l01Add_any p (fun _ => 0) (pmP p y Q m) (-1) W (by omega) (by omega) (by decide) (by decide) (fun k _ => p0) hpl)
        rw [← hC] at HAD
        have hls : updR (sng 0 C) 1 oneP = lsF p m y := by rw [hC, ← hQ]; exact lsF_eq p m y
        have HTI := Lib.hid (show ∀ W, Calls Try.prog 109 #[.int .i64 (p : Int), .agg (zb 64 m), .agg (zb 512 (fl 64 (updR (sng 0 C) 1 oneP))), .agg (zb 512 (fl 64 M))] W (fun e w' => e = .returned (.tuple #[.agg (zb 512 (fl 64 (tmP p m d (lsF p m y) M))), .bool true]) ∧ Below W.heap.size W w') from fun W => by
         rw [hls]
         exact l03Times_ok p m (lsF p m y) M W hpr lm d hdm hd1 d9 (fun i h k hk => (lsF_rsk hpr lm hmon hi d9 HYR.out i h).1 k hk) (fun i h => HLI2.out.1 i h) (HFT.out hnz))
        have HN9 := Lib.hid (HNS.out hnz)
        clear hC hls hpl hnz HNS HNZ HFT hQ
        go_upto_region 7 with (first | (refine zla (.tmp 9) B3 Try.underlying28 Try.size28 ?_) | (go_at_call 106; refine (HDG.out _).mono ?_; rintro e W5 ⟨rfl, hW5⟩; replace B0 := B0.zw hW5; replace B1 := B1.zw hW5; replace B2 := B2.zw hW5; replace B3 := B3.zw hW5; replace hb := (hb).trans (hW5.mono (hb).size)))
        have lt_B0 := B0.lt
        have lt_B1 := B1.lt
        have lt_B2 := B2.lt
        have lt_B3 := B3.lt
        go_upto_region 8 with (first | rw [← z64] | rw [← zero512] | (refine zla (.tmp 9) B3 Try.underlying28 Try.size28 ?_) | (refine zla (.tmp 4) B0 Try.underlying28 Try.size28 ?_) | (go_at_call 107; refine (HPM.out _).mono ?_; rintro e W6 ⟨rfl, hW6⟩; replace B0 := B0.zw hW6; replace B1 := B1.zw hW6; replace B2 := B2.zw hW6; replace B3 := B3.zw hW6; replace hb := (hb).trans (hW6.mono (hb).size)) | (go_at_call 80; refine (HAD.out _).mono ?_; rintro e W7 ⟨rfl, hW7⟩; replace B0 := B0.zw hW7; replace B1 := B1.zw hW7; replace B2 := B2.zw hW7; replace B3 := B3.zw hW7; replace hb := (hb).trans (hW7.mono (hb).size)) | (go_at_call 108; refine (l01One_any _).mono ?_; rintro e W8 ⟨rfl, hW8⟩; replace B0 := B0.zw hW8; replace B1 := B1.zw hW8; replace B2 := B2.zw hW8; replace B3 := B3.zw hW8; replace hb := (hb).trans (hW8.mono (hb).size)) | (refine zbo rfl 46 _ rfl (zb 512 (fl 64 (updR (sng 0 C) 1 oneP))) (by rw [Array.toList_map]; exact built_ls C) ?_) | (refine wpList_store_blk rfl 46 (.tmp 10) (.tmp 41) rfl _ 512 (fl 64 (updR (sng 0 C) 1 oneP)) rfl rfl 46 _ ((Blk.new W8 512 46 (fl 64 (fun _ _ => 0)))) Try.size46 ?_; try simp only [Act.put]))
        have lt_B0 := B0.lt
        have lt_B1 := B1.lt
        have lt_B2 := B2.lt
        have lt_B3 := B3.lt
        have lhb := hb.size
        obtain ⟨W9, hwo, hzQ⟩ : ∃ v : World, v = ((W8.alloc (.cells (zb 512 (fl 64 (fun _ _ => 0))) 46)).setRow (W8.heap.size) (zb 512 (fl 64 (updR (sng 0 C) 1 oneP)))) ∧ Blk v (w.heap.size) 64 28 (m) ∧ Blk v (w.heap.size + 1) 512 46 (fl 64 (fun _ _ => 0)) ∧ Blk v (N1) 512 46 (fl 64 M) ∧ Blk v (k5_8) 64 28 (y) ∧ Blk v (W8.heap.size) 512 46 (fl 64 (updR (sng 0 C) 1 oneP)) ∧ Below w.heap.size w v := ⟨_, rfl, ((B0.alloc (.cells (zb 512 (fl 64 (fun _ _ => 0))) 46)).rowOther (by omega)), ((B1.alloc (.cells (zb 512 (fl 64 (fun _ _ => 0))) 46)).rowOther (by omega)), ((B2.alloc (.cells (zb 512 (fl 64 (fun _ _ => 0))) 46)).rowOther (by omega)), ((B3.alloc (.cells (zb 512 (fl 64 (fun _ _ => 0))) 46)).rowOther (by omega)), ((Blk.new W8 512 46 (fl 64 (fun _ _ => 0))).row (fl 64 (updR (sng 0 C) 1 oneP))), (zr (hb.alloc (by have := hb.size; simp; omega) (.cells (zb 512 (fl 64 (fun _ _ => 0))) 46)) (by omega) _)⟩
        rw [← hwo]
        clear hwo B0 B1 B2 B3 hb
        obtain ⟨B0, B1, B2, B3, B4, hb⟩ := hzQ
        obtain ⟨N2, hNN⟩ : ∃ n : Nat, n = W8.heap.size := ⟨_, rfl⟩
        rw [← hNN] at lt_B0 lt_B1 lt_B2 lt_B3 lhb B4 ⊢
        clear hNN
        have zN2_0 := lt_B0
        have zN2_1 := lt_B1
        have zN2_2 := lt_B2
        have zN2_3 := lt_B3
        have zN2 := lhb
        clear lt_B0 lt_B1 lt_B2 lt_B3 lhb
        try simp only [Act.put, pA, pB, pC]
        have lt_B0 := B0.lt
        have lt_B1 := B1.lt
        have lt_B2 := B2.lt
        have lt_B3 := B3.lt
        have lt_B4 := B4.lt
        go_upto_region 9 with (first | rw [← z64] | rw [← zero512] | (refine zla (.tmp 4) B0 Try.underlying28 Try.size28 ?_) | (refine zla (.tmp 10) B4 Try.underlying46 Try.size46 ?_) | (refine zla (.tmp 7) B2 Try.underlying46 Try.size46 ?_) | (go_at_call 109; refine (HTI.out _).mono ?_; rintro e W10 ⟨rfl, hW10⟩; replace B0 := B0.zw hW10; replace B1 := B1.zw hW10; replace B2 := B2.zw hW10; replace B3 := B3.zw hW10; replace B4 := B4.zw hW10; replace hb := (hb).trans (hW10.mono (hb).size)) | (refine wpList_store_blk rfl 46 (.tmp 11) (.tmp 48) rfl _ 512 (fl 64 (tmP p m d (lsF p m y) M)) rfl rfl 46 _ ((Blk.new W10 512 46 (fl 64 (fun _ _ => 0)))) Try.size46 ?_; try simp only [Act.put]; go_upto_region 9 with (fail)))
        have lt_B0 := B0.lt
        have lt_B1 := B1.lt
        have lt_B2 := B2.lt
        have lt_B3 := B3.lt
        have lt_B4 := B4.lt
        have lhb := hb.size
        obtain ⟨W11, hwo, hzQ⟩ : ∃ v : World, v = ((W10.alloc (.cells (zb 512 (fl 64 (fun _ _ => 0))) 46)).setRow (W10.heap.size) (zb 512 (fl 64 (tmP p m d (lsF p m y) M)))) ∧ Blk v (w.heap.size) 64 28 (m) ∧ Blk v (w.heap.size + 1) 512 46 (fl 64 (fun _ _ => 0)) ∧ Blk v (N1) 512 46 (fl 64 M) ∧ Blk v (k5_8) 64 28 (y) ∧ Blk v (N2) 512 46 (fl 64 (updR (sng 0 C) 1 oneP)) ∧ Blk v (W10.heap.size) 512 46 (fl 64 (tmP p m d (lsF p m y) M)) ∧ Below w.heap.size w v := ⟨_, rfl, ((B0.alloc (.cells (zb 512 (fl 64 (fun _ _ => 0))) 46)).rowOther (by omega)), ((B1.alloc (.cells (zb 512 (fl 64 (fun _ _ => 0))) 46)).rowOther (by omega)), ((B2.alloc (.cells (zb 512 (fl 64 (fun _ _ => 0))) 46)).rowOther (by omega)), ((B3.alloc (.cells (zb 512 (fl 64 (fun _ _ => 0))) 46)).rowOther (by omega)), ((B4.alloc (.cells (zb 512 (fl 64 (fun _ _ => 0))) 46)).rowOther (by omega)), ((Blk.new W10 512 46 (fl 64 (fun _ _ => 0))).row (fl 64 (tmP p m d (lsF p m y) M))), (zr (hb.alloc (by have := hb.size; simp; omega) (.cells (zb 512 (fl 64 (fun _ _ => 0))) 46)) (by omega) _)⟩
        rw [← hwo]
        clear hwo B0 B1 B2 B3 B4 hb
        obtain ⟨B0, B1, B2, B3, B4, B5, hb⟩ := hzQ
        obtain ⟨N3, hNN⟩ : ∃ n : Nat, n = W10.heap.size := ⟨_, rfl⟩
        rw [← hNN] at lt_B0 lt_B1 lt_B2 lt_B3 lt_B4 lhb B5 ⊢
        clear hNN
        have zN3_0 := lt_B0
        have zN3_1 := lt_B1
        have zN3_2 := lt_B2
        have zN3_3 := lt_B3
        have zN3_4 := lt_B4
        have zN3 := lhb
        clear lt_B0 lt_B1 lt_B2 lt_B3 lt_B4 lhb
        try simp only [Act.put, pA, pB, pC]
        have lt_B0 := B0.lt
        have lt_B1 := B1.lt
        have lt_B2 := B2.lt
        have lt_B3 := B3.lt
        have lt_B4 := B4.lt
        have lt_B5 := B5.lt
        go_wp2_with (first | rw [← z64] | rw [← zero512] | (refine zla (.tmp 11) B5 Try.underlying46 Try.size46 ?_) | (refine zsr (.tmp 7) (.tmp 50) (fl 64 (tmP p m d (lsF p m y) M)) B2 Try.size46 ?_; try simp only [Act.put]))
        obtain ⟨W12, hwo, hzQ⟩ : ∃ v : World, v = (W11.setRow (N1) (zb 512 (fl 64 (tmP p m d (lsF p m y) M)))) ∧ Blk v (w.heap.size) 64 28 (m) ∧ Blk v (w.heap.size + 1) 512 46 (fl 64 (fun _ _ => 0)) ∧ Blk v (N1) 512 46 (fl 64 (tmP p m d (lsF p m y) M)) ∧ Blk v (k5_8) 64 28 (y) ∧ Blk v (N2) 512 46 (fl 64 (updR (sng 0 C) 1 oneP)) ∧ Blk v (N3) 512 46 (fl 64 (tmP p m d (lsF p m y) M)) ∧ Below w.heap.size w v := ⟨_, rfl, (B0.rowOther (by omega)), (B1.rowOther (by omega)), (B2.row (fl 64 (tmP p m d (lsF p m y) M))), (B3.rowOther (by omega)), (B4.rowOther (by omega)), (B5.rowOther (by omega)), (zr hb (by omega) _)⟩
        rw [← hwo]
        clear hwo B0 B1 B2 B3 B4 B5 hb
        obtain ⟨B0, B1, B2, B3, B4, B5, hb⟩ := hzQ
        try simp only [Act.put, pA, pB, pC]
        go_roundw
        case rel => exact ⟨j + 1, by go_num, by omega, hb, B0, B1, by rw [HN9.out]; exact B2⟩
        case measure => simp [intOf] <;> omega
  · have hjI : ¬ (j : Int) < (Ls.length : Int) := by omega
    obtain rfl : j = Ls.length := by omega
    go_upto_region 10 with (fail)
    have lt_B0 := B0.lt
    have lt_B1 := B1.lt
    have lt_B2 := B2.lt
    go_wp2_with (first | rw [← z64] | rw [← zero512] | (refine zla (.tmp 7) B2 Try.underlying46 Try.size46 ?_) | (refine zsr (.tmp 6) (.tmp 51) (fl 64 (lqR p m d Ls Ls.length)) B1 Try.size46 ?_; try simp only [Act.put]))
    obtain ⟨W4, hwo, hzQ⟩ : ∃ v : World, v = (wr.setRow (w.heap.size + 1) (zb 512 (fl 64 (lqR p m d Ls Ls.length)))) ∧ Blk v (w.heap.size) 64 28 (m) ∧ Blk v (w.heap.size + 1) 512 46 (fl 64 (lqR p m d Ls Ls.length)) ∧ Blk v (N1) 512 46 (fl 64 (lqR p m d Ls Ls.length)) ∧ Below w.heap.size w v := ⟨_, rfl, (B0.rowOther (by omega)), (B1.row (fl 64 (lqR p m d Ls Ls.length))), (B2.rowOther (by omega)), (zr hb (by omega) _)⟩
    rw [← hwo]
    clear hwo B0 B1 B2 hb
    obtain ⟨B0, B1, B2, hb⟩ := hzQ
    try simp only [Act.put, pA, pB, pC]
    refine bodyPost_ret (results_any rfl _ _ _ 512 _ _ rfl B1 _ Try.underlying46 rfl Try.size46) rfl ⟨rfl, hb⟩
end Go.Proofs.Ytelgefgphhebnaa
end
section
namespace Go.Proofs.Ytelgefgphhebnaa
open Go Go.RowKit
set_option linter.unusedVariables false
set_option linter.unusedSimpArgs false
theorem flV_irr {n d : Nat} {m : Nat → Nat} (h : flV (n : Int) m = true) (hmon : mon m d) : irr n (cut m) d := by
 unfold flV at h
 simp only [Bool.and_eq_true, Int.toNat_natCast] at h
 obtain ⟨e, he⟩ := irB_iff.1 h.2.2
 have : e = d := by
  have e1 := he.2.1.1
  have e2 := (mon_cut hmon).1
  omega
 rw [← this]; exact he
/-- the least skew polynomial with its code -/
noncomputable def lsV (p : Int) (m : Nat → Nat) (L : List (Nat → Nat)) : (Nat → Nat → Nat) × Int := if ckR p m [L] = 0 then (lqR p.toNat m (deg m).toNat L L.length, 0) else (fun _ _ => 0, ckR p m [L])
theorem lsV_0 {n d : Nat} {m : Nat → Nat} {L : List (Nat → Nat)} (h : ckR (n : Int) m [L] = 0) (hd : deg m = (d : Int)) : lsV (n : Int) m L = (lqR n m d L L.length, 0) := by unfold lsV; rw [if_pos h, hd]; rfl
theorem lsV_n {p : Int} {m : Nat → Nat} {L : List (Nat → Nat)} (h : ckR p m [L] ≠ 0) : lsV p m L = (fun _ _ => 0, ckR p m [L]) := by unfold lsV; rw [if_neg h]
attribute [irreducible] lsV
attribute [local irreducible] deg flV irB mon
set_option maxRecDepth 100000 in
set_option maxHeartbeats 6400000 in
theorem impl_LeastSkew_any (p : Int) (m : Nat → Nat) (Lr : List (Nat → Nat)) (a : Option Addr) (cap base : Nat) (w : World) (hm : byte m) (hLb : ∀ x, x ∈ Lr → byte x) (hlen : (Lr.length : Int) ≤ 1048576) (hL : SlL w base 28 64 (.slice a Lr.length cap) (plR Lr)) :
 Calls Try.prog 34 #[.int .i64 p, .agg (zb 64 m), .slice a Lr.length cap] w fun e w' => e = .returned (.tuple #[.agg (zb 512 (fl 64 (lsV p m Lr).1)), .int .i64 (lsV p m Lr).2]) ∧ Below w.heap.size w w' := by
 have HCK := Lib.hid (fun W W2 b (hW : Below w.heap.size w W) (hy : Below W.heap.size W W2) (hR : Row W2 b 30 [Value.slice a Lr.length cap].toArray) => checkResidues_any p m hm [Lr] [.slice a Lr.length cap] (.slice (some ⟨b, 0, none⟩) 1 1) W2 (fun L h => by rw [List.mem_singleton] at h; subst h; exact ⟨hLb, hlen⟩) (by simp) (LsV.one ((hL.zw hW).below hy (hL.zw hW).lt)) (LsS.row (vs := [Value.slice a Lr.length cap]) hR))
 obtain ⟨C, hC⟩ : ∃ C, ckR p m [Lr] = C := ⟨_, rfl⟩
 go_enter Try.func34, Try.ntmps34
 go_upto_region 1 with (fail)
 rw [← zero512]
 obtain ⟨W1, hwo⟩ : ∃ v : World, v = ((w.alloc (.cells (zb 64 (m)) 28)).alloc (.cells (zb 512 (fl 64 (fun _ _ => 0))) 46)) := ⟨_, rfl⟩
 have B0 : Blk W1 (w.heap.size) 64 28 (m) := by subst hwo; have := ((Blk.new w 64 28 (m)).alloc (.cells (zb 512 (fl 64 (fun _ _ => 0))) 46)); simpa using this
 have B1 : Blk W1 (w.heap.size + 1) 512 46 (fl 64 (fun _ _ => 0)) := by subst hwo; have := (Blk.new (w.alloc (.cells (zb 64 (m)) 28)) 512 46 (fl 64 (fun _ _ => 0))); simpa using this
 have hb : Below w.heap.size w W1 := by subst hwo; exact (((Below.refl _ _).alloc (Nat.le_refl _) _).alloc (by simp) _)
 rw [← hwo]
 clear hwo
 go_upto_region 2 with (first | (refine zla (.tmp 4) B0 Try.underlying28 Try.size28 ?_) | (refine wpList_build_one rfl 25 _ (.slice a Lr.length cap) rfl rfl 30 Try.underlying25 Try.elemSl rfl ?_; intro wa hrw hba) | (go_at_call 55; refine (HCK.out _ _ _ hb hba hrw).mono ?_; rintro e W5 ⟨rfl, h5⟩; replace B0 := (B0.zw hba).below h5 (B0.zw hba).lt; replace B1 := (B1.zw hba).below h5 (B1.zw hba).lt; replace hb := (hb.trans (hba.mono hb.size)).trans (h5.mono (hb.trans (hba.mono hb.size)).size); rw [hC]))
 by_cases h0 : C = 0
 · have hck := hC.trans h0
   subst h0
   obtain ⟨n, d, rfl, hpr, lm, hmon, d1, d4, hdm, hg⟩ := ck_fld hck
   have hirr := flV_irr (ckR_zero hck).1 hmon
   have hg1 : ∀ z, z ∈ Lr → rsd n m z := fun z hz => by
    have := hg Lr (by simp) z hz
    exact ⟨this.1, by rw [hdm]; exact this.2⟩
   have HV := Lib.hid (lsV_0 hck hdm)
   have hLw := hL.zw hb
   have HLS := Lib.hid (fun W (hW : Below w.heap.size w W) => leastSkew_any n d m Lr a cap base W hpr lm hmon hirr d1 d4 hg1 hlen (hL.zw hW))
   clear hC hck hg HCK hirr hg1 hLw hmon lm hdm
   go_upto_region 4 with (fail)
   have lt_B0 := B0.lt
   have lt_B1 := B1.lt
   go_wp2_with (first | rw [← z64] | rw [← zero512] | (refine zla (.tmp 4) B0 Try.underlying28 Try.size28 ?_) | (refine zbo rfl 70 _ rfl (fdC (n : Int) m).toArray (by rw [Array.toList_map]; exact built_fd (n : Int) m) ?_) | (go_at_call 63; refine (HLS.out _ hb).mono ?_; rintro e W2 ⟨rfl, hW2⟩; replace B0 := B0.zw hW2; replace B1 := B1.zw hW2; replace hb := (hb).trans (hW2.mono (hb).size)) | (refine zsr (.tmp 6) (.tmp 22) (fl 64 (lqR n m d Lr Lr.length)) B1 Try.size46 ?_; try simp only [Act.put]; go_wp2_with fail))
   obtain ⟨W3, hwo, hzQ⟩ : ∃ v : World, v = (W2.setRow (w.heap.size + 1) (zb 512 (fl 64 (lqR n m d Lr Lr.length)))) ∧ Blk v (w.heap.size) 64 28 (m) ∧ Blk v (w.heap.size + 1) 512 46 (fl 64 (lqR n m d Lr Lr.length)) ∧ Below w.heap.size w v := ⟨_, rfl, (B0.rowOther (by omega)), (B1.row (fl 64 (lqR n m d Lr Lr.length))), (zr hb (by omega) _)⟩
   rw [← hwo]
   clear hwo B0 B1 hb
   obtain ⟨B0, B1, hb⟩ := hzQ
   try simp only [Act.put, pA, pB, pC]
   refine bodyPost_ret (zrt rfl _ _ _ 512 _ _ rfl B1 _ Try.underlying46 rfl Try.size46) rfl ⟨by rw [HV.out]; rfl, hb⟩
 · have HV := Lib.hid (lsV_n (show ckR p m [Lr] ≠ 0 by rw [hC]; exact h0))
   rw [hC] at HV
   have hC1 : (C != 0) = true := by simp [h0]
   clear hC HCK
   go_upto_region 3 with (fail)
   have lt_B0 := B0.lt
   have lt_B1 := B1.lt
   go_wp2_with (first | rw [← z64] | rw [← zero512] | (refine zsr (.tmp 6) (.tmp 16) (fl 64 (fun _ _ => 0)) B1 Try.size46 ?_; try simp only [Act.put]; go_wp2_with fail))
   obtain ⟨W2, hwo, hzQ⟩ : ∃ v : World, v = (W5.setRow (w.heap.size + 1) (zb 512 (fl 64 (fun _ _ => 0)))) ∧ Blk v (w.heap.size) 64 28 (m) ∧ Blk v (w.heap.size + 1) 512 46 (fl 64 (fun _ _ => 0)) ∧ Below w.heap.size w v := ⟨_, rfl, (B0.rowOther (by omega)), (B1.row (fl 64 (fun _ _ => 0))), (zr hb (by omega) _)⟩
   rw [← hwo]
   clear hwo B0 B1 hb
   obtain ⟨B0, B1, hb⟩ := hzQ
   try simp only [Act.put, pA, pB, pC]
   refine bodyPost_ret (zrt rfl _ _ _ 512 _ _ rfl B1 _ Try.underlying46 rfl Try.size46) rfl ⟨by rw [HV.out]; rfl, hb⟩
set_option maxRecDepth 100000 in
set_option maxHeartbeats 6400000 in
theorem spec_LeastSkew_any (p : Int) (m : Nat → Nat) (Lr : List (Nat → Nat)) (a : Option Addr) (cap base : Nat) (w : World) (hm : byte m) (hLb : ∀ x, x ∈ Lr → byte x) (hlen : (Lr.length : Int) ≤ 1048576) (hL : SlL w base 28 64 (.slice a Lr.length cap) (plR Lr)) :
 Calls Try.prog 33 #[.int .i64 p, .agg (zb 64 m), .slice a Lr.length cap] w fun e w' => e = .returned (.tuple #[.agg (zb 512 (fl 64 (lsV p m Lr).1)), .int .i64 (lsV p m Lr).2]) ∧ Below w.heap.size w w' := by
 have HCK := Lib.hid (fun W (hW : Below w.heap.size w W) => l03Residues_any p m hm Lr a cap base W hLb hlen (hL.zw hW))
 obtain ⟨C, hC⟩ : ∃ C, ckR p m [Lr] = C := ⟨_, rfl⟩
 go_enter Try.func33, Try.ntmps33
 go_upto_region 1 with (fail)
 rw [← zero512]
 obtain ⟨W1, hwo⟩ : ∃ v : World, v = ((w.alloc (.cells (zb 64 (m)) 28)).alloc (.cells (zb 512 (fl 64 (fun _ _ => 0))) 46)) := ⟨_, rfl⟩
 have B0 : Blk W1 (w.heap.size) 64 28 (m) := by subst hwo; have := ((Blk.new w 64 28 (m)).alloc (.cells (zb 512 (fl 64 (fun _ _ => 0))) 46)); simpa using this
 have B1 : Blk W1 (w.heap.size + 1) 512 46 (fl 64 (fun _ _ => 0)) := by subst hwo; have := (Blk.new (w.alloc (.cells (zb 64 (m)) 28)) 512 46 (fl 64 (fun _ _ => 0))); simpa using this
 have hb : Below w.heap.size w W1 := by subst hwo; exact (((Below.refl _ _).alloc (Nat.le_refl _) _).alloc (by simp) _)
 rw [← hwo]
 clear hwo
 go_upto_region 2 with (first | (refine zla (.tmp 4) B0 Try.underlying28 Try.size28 ?_) | (go_at_call 53; refine (HCK.out _ hb).mono ?_; rintro e W5 ⟨rfl, h5⟩; replace B0 := B0.zw h5; replace B1 := B1.zw h5; replace hb := hb.trans (h5.mono hb.size); rw [hC]))
 by_cases h0 : C = 0
 · have hck := hC.trans h0
   subst h0
   obtain ⟨n, d, rfl, hpr, lm, hmon, d1, d4, hdm, hg⟩ := ck_fld hck
   have hirr := flV_irr (ckR_zero hck).1 hmon
   have hg1 : ∀ z, z ∈ Lr → rsd n m z := fun z hz => by
    have := hg Lr (by simp) z hz
    exact ⟨this.1, by rw [hdm]; exact this.2⟩
   have HV := Lib.hid (lsV_0 hck hdm)
   have hLw := hL.zw hb
   have HLS := Lib.hid (fun W (hW : Below w.heap.size w W) => l03Least_any n d m Lr a cap base W hpr lm hmon hirr d1 d4 hg1 hlen (hL.zw hW))
   clear hC hck hg HCK hirr hg1 hLw hmon lm hdm
   go_upto_region 4 with (fail)
   have lt_B0 := B0.lt
   have lt_B1 := B1.lt
   go_wp2_with (first | rw [← z64] | rw [← zero512] | (refine zla (.tmp 4) B0 Try.underlying28 Try.size28 ?_) | (go_at_call 62; refine (HLS.out _ hb).mono ?_; rintro e W2 ⟨rfl, hW2⟩; replace B0 := B0.zw hW2; replace B1 := B1.zw hW2; replace hb := (hb).trans (hW2.mono (hb).size)) | (refine zsr (.tmp 6) (.tmp 20) (fl 64 (lqR n m d Lr Lr.length)) B1 Try.size46 ?_; try simp only [Act.put]; go_wp2_with fail))
   obtain ⟨W3, hwo, hzQ⟩ : ∃ v : World, v = (W2.setRow (w.heap.size + 1) (zb 512 (fl 64 (lqR n m d Lr Lr.length)))) ∧ Blk v (w.heap.size) 64 28 (m) ∧ Blk v (w.heap.size + 1) 512 46 (fl 64 (lqR n m d Lr Lr.length)) ∧ Below w.heap.size w v := ⟨_, rfl, (B0.rowOther (by omega)), (B1.row (fl 64 (lqR n m d Lr Lr.length))), (zr hb (by omega) _)⟩
   rw [← hwo]
   clear hwo B0 B1 hb
   obtain ⟨B0, B1, hb⟩ := hzQ
   try simp only [Act.put, pA, pB, pC]
   refine bodyPost_ret (zrt rfl _ _ _ 512 _ _ rfl B1 _ Try.underlying46 rfl Try.size46) rfl ⟨by rw [HV.out]; rfl, hb⟩
 · have HV := Lib.hid (lsV_n (show ckR p m [Lr] ≠ 0 by rw [hC]; exact h0))
   rw [hC] at HV
   have hC1 : (C != 0) = true := by simp [h0]
   clear hC HCK
   go_upto_region 3 with (fail)
   have lt_B0 := B0.lt
   have lt_B1 := B1.lt
   go_wp2_with (first | rw [← z64] | rw [← zero512] | (refine zsr (.tmp 6) (.tmp 15) (fl 64 (fun _ _ => 0)) B1 Try.size46 ?_; try simp only [Act.put]; go_wp2_with fail))
   obtain ⟨W2, hwo, hzQ⟩ : ∃ v : World, v = (W5.setRow (w.heap.size + 1) (zb 512 (fl 64 (fun _ _ => 0)))) ∧ Blk v (w.heap.size) 64 28 (m) ∧ Blk v (w.heap.size + 1) 512 46 (fl 64 (fun _ _ => 0)) ∧ Below w.heap.size w v := ⟨_, rfl, (B0.rowOther (by omega)), (B1.row (fl 64 (fun _ _ => 0))), (zr hb (by omega) _)⟩
   rw [← hwo]
   clear hwo B0 B1 hb
   obtain ⟨B0, B1, hb⟩ := hzQ
   try simp only [Act.put, pA, pB, pC]
   refine bodyPost_ret (zrt rfl _ _ _ 512 _ _ rfl B1 _ Try.underlying46 rfl Try.size46) rfl ⟨by rw [HV.out]; rfl, hb⟩
end Go.Proofs.Ytelgefgphhebnaa
end
section
namespace Go.Proofs.Ytelgefgphhebnaa
open Go Go.RowKit
set_option linter.unusedVariables false
set_option linter.unusedSimpArgs false
set_option maxRecDepth 100000 in
set_option maxHeartbeats 3200000 in
theorem FnExactLeastSkew_walkA (w : World) (p : Int) (m : Nat → Nat) (hm : byte m) (aList : Option Addr) (nList cList : Nat) (XList : Nat → Nat → Nat) (xList : ∀ i, byte (XList i)) (wList : nList ≤ maxLen) (lList : Lst w aList nList XList) :
 Calls Try.prog 8 #[.int .i64 p, .agg (zb 64 m), .slice aList nList cList] w fun e w' => e = .returned (.bool true) ∧ Below w.heap.size w w' := by
 go_enter Try.func8, Try.ntmps8
 go_upto_region 1 with (fail)
 obtain ⟨W1, hwo⟩ : ∃ v : World, v = (w.alloc (.cells (zb 64 (m)) 22)) := ⟨_, rfl⟩
 have B0 : Blk W1 (w.heap.size) 64 22 (m) := by subst hwo; have := (Blk.new w 64 22 (m)); simpa using this
 have hb : Below w.heap.size w W1 := by subst hwo; exact ((Below.refl _ _).alloc (Nat.le_refl _) _)
 rw [← hwo]
 clear hwo
 by_cases hs0 : (nList : Int) ≤ 1048576
 · have hneg0 : ¬ (1048576 - (nList : Int) < 0) := by omega
   go_upto_region 5 with (first | (go_at_call 14; refine (szPolyS_at aList nList cList (1048576) _ wList (by omega) (by omega)).mono ?_; rintro e wS ⟨rfl, rfl⟩; rw [if_pos hs0]))
   obtain ⟨LList, hLList⟩ : ∃ L : List (Nat → Nat), L = (List.range nList).map XList := ⟨_, rfl⟩
   have hlList : LList.length = nList := by rw [hLList]; simp
   have hbyList : ∀ z, z ∈ LList → byte z := fun z hz => by rw [hLList] at hz; obtain ⟨i, _, rfl⟩ := List.mem_map.1 hz; exact xList i
   have hlenList : (LList.length : Int) ≤ 1048576 := by omega
   have HTOList := Lib.hid (fun W (hW : Below w.heap.size w W) => hLList ▸ toPolyS_any aList nList cList XList xList W (lList.below hW) hs0)
   have HEQList := Lib.hid (fun b b2 q q2 W h1 h2 => show Calls Try.prog 20 #[.slice (some ⟨b, 0, none⟩) nList nList, .slice (some ⟨b2, 0, none⟩) nList nList] W _ from hlList ▸ eqPolyS_big LList (some ⟨b, 0, none⟩) (some ⟨b2, 0, none⟩) LList.length LList.length q q2 W (hlList ▸ h1) (hlList ▸ h2) (by omega))
   clear hLList
   have HSP := Lib.hid (fun (W : World) (bList : Nat) (qList : Nat) (sList : SlL W qList 28 64 (.slice (some ⟨bList, 0, none⟩) nList nList) (plR LList)) => show Calls Try.prog 33 #[.int .i64 p, .agg (zb 64 m), .slice (some ⟨bList, 0, none⟩) nList nList] W _ from by
    have := spec_LeastSkew_any p m LList (some ⟨bList, 0, none⟩) LList.length qList W hm hbyList hlenList (hlList ▸ sList)
    rw [hlList] at this
    exact this)
   have HIM := Lib.hid (fun (W : World) (bList : Nat) (qList : Nat) (sList : SlL W qList 28 64 (.slice (some ⟨bList, 0, none⟩) nList nList) (plR LList)) => show Calls Try.prog 34 #[.int .i64 p, .agg (zb 64 m), .slice (some ⟨bList, 0, none⟩) nList nList] W _ from by
    have := impl_LeastSkew_any p m LList (some ⟨bList, 0, none⟩) LList.length qList W hm hbyList hlenList (hlList ▸ sList)
    rw [hlList] at this
    exact this)
   clear hbyList
   have hne0 : (((lsV p m LList).2) != ((lsV p m LList).2)) = false := by simp
   have lt_B0 := B0.lt
   go_upto_region 6 with (first | rw [← z64] | rw [← zero512] | (refine zla (.tmp 4) B0 Try.underlying22 Try.size22 ?_) | (go_at_call 16; refine (toPoly_any m hm _).mono ?_; rintro e W2 ⟨rfl, hW2⟩; replace B0 := B0.zw hW2; replace hb := (hb).trans (hW2.mono (hb).size)) | (go_at_call 17; refine (HTOList.out _ hb).mono ?_; rintro e W3 ⟨bList, rfl, hsList, _, hW3⟩; replace B0 := B0.zw hW3; replace hb := (hb).trans (hW3.mono (hb).size)) | (go_at_call 33; refine (HSP.out _ _ _ hsList).mono ?_; rintro e W4 ⟨rfl, hW4⟩; replace B0 := B0.zw hW4; replace hb := (hb).trans (hW4.mono (hb).size)) | (refine wpList_store_blk rfl 46 (.tmp 8) (.tmp 25) rfl _ 512 (fl 64 ((lsV p m LList).1)) rfl rfl 46 _ ((Blk.new W4 512 46 (fl 64 (fun _ _ => 0)))) Try.size46 ?_; try simp only [Act.put]; go_upto_region 6 with (fail)))
   have lt_B0 := B0.lt
   have lhb := hb.size
   obtain ⟨W5, hwo, hzQ⟩ : ∃ v : World, v = ((W4.alloc (.cells (zb 512 (fl 64 (fun _ _ => 0))) 46)).setRow (W4.heap.size) (zb 512 (fl 64 ((lsV p m LList).1)))) ∧ Blk v (w.heap.size) 64 22 (m) ∧ Blk v (W4.heap.size) 512 46 (fl 64 ((lsV p m LList).1)) ∧ Below w.heap.size w v := ⟨_, rfl, ((B0.alloc (.cells (zb 512 (fl 64 (fun _ _ => 0))) 46)).rowOther (by omega)), ((Blk.new W4 512 46 (fl 64 (fun _ _ => 0))).row (fl 64 ((lsV p m LList).1))), (zr (hb.alloc (by have := hb.size; simp; omega) (.cells (zb 512 (fl 64 (fun _ _ => 0))) 46)) (by omega) _)⟩
   rw [← hwo]
   clear hwo B0 hb
   obtain ⟨B0, B1, hb⟩ := hzQ
   obtain ⟨N1, hNN⟩ : ∃ n : Nat, n = W4.heap.size := ⟨_, rfl⟩
   rw [← hNN] at lt_B0 lhb B1 ⊢
   clear hNN
   have zN1_0 := lt_B0
   have zN1 := lhb
   clear lt_B0 lhb
   try simp only [Act.put, pA, pB, pC]
   clear hsList HSP
   go_upto_region 7 with (first | (go_at_call 17; refine (HTOList.out _ hb).mono ?_; rintro e W6 ⟨bList, rfl, hsList, _, hW6⟩; replace B0 := B0.zw hW6; replace B1 := B1.zw hW6; replace hb := (hb).trans (hW6.mono (hb).size)))
   have hU := hsList.toU
   obtain ⟨top, hte⟩ : ∃ t, t = W6.heap.size := ⟨_, rfl⟩
   rw [← hte] at hU
   obtain ⟨qx, hqx⟩ : ∃ q, q = W5.heap.size := ⟨_, rfl⟩
   rw [← hqx] at hU
   clear hte hqx hsList
   have lt_B0 := B0.lt
   have lt_B1 := B1.lt
   have lt_hU := hU.lt
   go_upto_region 8 with (first | rw [← z64] | rw [← zero512] | (refine zla (.tmp 4) B0 Try.underlying22 Try.size22 ?_) | (go_at_call 16; refine (toPoly_any m hm _).mono ?_; rintro e W7 ⟨rfl, hW7⟩; replace B0 := B0.zw hW7; replace B1 := B1.zw hW7; replace hU := hU.zw hW7; replace hb := (hb).trans (hW7.mono (hb).size)) | (go_at_call 34; refine (HIM.out _ _ _ hU.1.1).mono ?_; rintro e W8 ⟨rfl, hW8⟩; replace B0 := B0.zw hW8; replace B1 := B1.zw hW8; replace hU := hU.zw hW8; replace hb := (hb).trans (hW8.mono (hb).size)) | (refine wpList_store_blk rfl 46 (.tmp 11) (.tmp 35) rfl _ 512 (fl 64 ((lsV p m LList).1)) rfl rfl 46 _ ((Blk.new W8 512 46 (fl 64 (fun _ _ => 0)))) Try.size46 ?_; try simp only [Act.put]; go_upto_region 8 with (fail)))
   have lt_B0 := B0.lt
   have lt_B1 := B1.lt
   have lt_hU := hU.lt
   have lhb := hb.size
   obtain ⟨W9, hwo, hzQ⟩ : ∃ v : World, v = ((W8.alloc (.cells (zb 512 (fl 64 (fun _ _ => 0))) 46)).setRow (W8.heap.size) (zb 512 (fl 64 ((lsV p m LList).1)))) ∧ Blk v (w.heap.size) 64 22 (m) ∧ Blk v (N1) 512 46 (fl 64 ((lsV p m LList).1)) ∧ SlU v qx (top) 28 64 (.slice (some ⟨bList, 0, none⟩) nList nList) (plR LList) ∧ Blk v (W8.heap.size) 512 46 (fl 64 ((lsV p m LList).1)) ∧ Below w.heap.size w v := ⟨_, rfl, ((B0.alloc (.cells (zb 512 (fl 64 (fun _ _ => 0))) 46)).rowOther (by omega)), ((B1.alloc (.cells (zb 512 (fl 64 (fun _ _ => 0))) 46)).rowOther (by omega)), ((hU.alloc (.cells (zb 512 (fl 64 (fun _ _ => 0))) 46)).rowOther (by omega)), ((Blk.new W8 512 46 (fl 64 (fun _ _ => 0))).row (fl 64 ((lsV p m LList).1))), (zr (hb.alloc (by have := hb.size; simp; omega) (.cells (zb 512 (fl 64 (fun _ _ => 0))) 46)) (by omega) _)⟩
   rw [← hwo]
   clear hwo B0 B1 hU hb
   obtain ⟨B0, B1, hU, B3, hb⟩ := hzQ
   obtain ⟨N2, hNN⟩ : ∃ n : Nat, n = W8.heap.size := ⟨_, rfl⟩
   rw [← hNN] at lt_B0 lt_B1 lt_hU lhb B3 ⊢
   clear hNN
   have zN2_0 := lt_B0
   have zN2_1 := lt_B1
   have zN2_2 := lt_hU
   have zN2 := lhb
   clear lt_B0 lt_B1 lt_hU lhb
   try simp only [Act.put, pA, pB, pC]
   go_upto_region 10 with (first | (refine zla (.tmp 11) B3 Try.underlying46 Try.size46 ?_) | (refine zla (.tmp 8) B1 Try.underlying46 Try.size46 ?_) | (go_at_call 35; refine (eqSkew_same _ _ (fun _ _ _ _ => rfl) _).mono ?_; rintro e W10 ⟨rfl, hW10⟩; replace B0 := B0.zw hW10; replace B1 := B1.zw hW10; replace hU := hU.zw hW10; replace B3 := B3.zw hW10; replace hb := (hb).trans (hW10.mono (hb).size)))
   have hsList := hU.1.1
   clear hU
   go_wp2_with (first | (go_at_call 17; with_reducible refine (HTOList.out _ hb).mono ?_; rintro e W2 ⟨yList, rfl, zList, _, h2⟩; replace hsList := hsList.zw h2; replace hb := hb.trans (h2.mono hb.size)) | (go_at_call 20; refine (HEQList.out _ _ _ _ _ hsList zList).mono ?_; rintro e W4 ⟨rfl, h2⟩; replace hb := hb.trans (h2.mono hb.size)))
   go_ret
   exact ⟨rfl, hb⟩
 · go_wp2_with (first | (go_at_call 14; refine (szPolyS_at aList nList cList (1048576) _ wList (by omega) (by omega)).mono ?_; rintro e wS ⟨rfl, rfl⟩; rw [if_neg hs0]))
   go_ret
   exact ⟨rfl, hb⟩
theorem FnExactLeastSkew_walk {w : World} (p : Int) (m : Nat → Nat) (hm : byte m) (aList : Option Addr) (nList cList : Nat) (XList : Nat → Nat → Nat) (xList : ∀ i, byte (XList i)) (wList : nList ≤ maxLen) (lList : Lst w aList nList XList) (w' : World) (hw : w' = w) :
 Calls Try.prog 8 #[.int .i64 p, .agg (zb 64 m), .slice aList nList cList] w fun e w' => e = .returned (.bool true) ∧ Below w.heap.size w w' :=
 FnExactLeastSkew_walkA w p m hm aList nList cList XList xList wList lList
end Go.Proofs.Ytelgefgphhebnaa
end
section
namespace Go.Proofs.Ytelgefgphhebnaa
open Go
def cutW : List Char := [Char.ofNat 99, Char.ofNat 117, Char.ofNat 116]
theorem strip_cut (rest : List (List Char)) : stripLifts liftWords (cutW :: rest) = ([], cutW :: rest) := by
 have key : ∀ os : List String, (os.all fun o => !(cutW == o.toList)) = true → stripLifts os (cutW :: rest) = ([], cutW :: rest) := by
  intro os
  induction os with
  | nil => intro _; rfl
  | cons o os ih =>
   intro h
   simp only [List.all_cons, Bool.and_eq_true, Bool.not_eq_true'] at h
   unfold stripLifts
   rw [h.1]
   exact ih h.2
 exact key _ (by decide +kernel)
theorem make_cut {P : Program} {rest : List (List Char)} (h : behindMainWord (wordsSigns P.initOrder.toList) = cutW :: rest) : P.make = some .cut := by
 unfold Program.make
 rw [h]
 have e1 : (cutW == "gc".toList || cutW == "spec".toList) = false := by decide +kernel
 have e2 : (cutW == "cut".toList) = true := by decide +kernel
 simp only [e1, e2, Bool.true_or]
 rfl
theorem mayEnter_cut {P : Program} {rest : List (List Char)} (h : behindMainWord (wordsSigns P.initOrder.toList) = cutW :: rest) (h1 : P.laysLater = false) (h2 : P.bearsReflect = false) (h3 : P.doorFits [] = true) : P.mayEnter = true := by
 unfold Program.mayEnter
 rw [h]
 have e2 : (some cutW == some "cut".toList) = true := by decide +kernel
 simp only [strip_cut, h1, h2, h3, List.head?_cons, e2]
 simp
theorem lifts_cut {P : Program} {rest : List (List Char)} (h : behindMainWord (wordsSigns P.initOrder.toList) = cutW :: rest) : P.liftsFinal = false := by
 unfold Program.liftsFinal Program.headLifts
 rw [h]
 have e2 : (some cutW == some "cut".toList) = true := by decide +kernel
 have e3 : (some cutW == some "carried".toList) = false := by decide +kernel
 simp only [strip_cut, List.head?_cons, e2, e3]
 simp
/-- the signs of the head, and its words behind the first three -/
def initRest : List (List Nat) := [[97, 116], [108, 111, 111, 112, 46, 101, 120, 97, 109, 112, 108, 101, 47, 103, 48, 49, 50, 52, 53, 47, 108, 97, 119, 115, 46, 70, 110, 69, 120, 97, 99, 116, 77, 111, 111, 114, 101, 77, 97, 116, 114, 105, 120], [108, 111, 111, 112, 46, 101, 120, 97, 109, 112, 108, 101, 47, 103, 48, 49, 50, 52, 53, 47, 108, 97, 119, 115, 46, 70, 110, 69, 120, 97, 99, 116, 83, 112, 97, 110, 79, 102], [108, 111, 111, 112, 46, 101, 120, 97, 109, 112, 108, 101, 47, 103, 48, 49, 50, 52, 53, 47, 108, 97, 119, 115, 46, 70, 110, 69, 120, 97, 99, 116, 82, 97, 110, 107, 79, 102, 87, 111, 114, 100], [108, 111, 111, 112, 46, 101, 120, 97, 109, 112, 108, 101, 47, 103, 48, 49, 50, 52, 53, 47, 108, 97, 119, 115, 46, 70, 110, 69, 120, 97, 99, 116, 82, 97, 110, 107, 68, 105, 115, 116, 97, 110, 99, 101], [108, 111, 111, 112, 46, 101, 120, 97, 109, 112, 108, 101, 47, 103, 48, 49, 50, 52, 53, 47, 108, 97, 119, 115, 46, 70, 110, 69, 120, 97, 99, 116, 76, 101, 97, 115, 116, 82, 97, 110, 107], [108, 111, 111, 112, 46, 101, 120, 97, 109, 112, 108, 101, 47, 103, 48, 49, 50, 52, 53, 47, 108, 97, 119, 115, 46, 70, 110, 69, 120, 97, 99, 116, 76, 101, 97, 115, 116, 83, 107, 101, 119], [108, 111, 111, 112, 46, 101, 120, 97, 109, 112, 108, 101, 47, 103, 48, 49, 50, 52, 53, 47, 108, 97, 119, 115, 46, 70, 110, 69, 120, 97, 99, 116, 77, 111, 111, 114, 101, 68, 101, 116, 101, 114, 109, 105, 110, 97, 110, 116], [108, 111, 111, 112, 46, 101, 120, 97, 109, 112, 108, 101, 47, 103, 48, 49, 50, 52, 53, 47, 108, 97, 119, 115, 46, 70, 110, 69, 120, 97, 99, 116, 83, 113, 117, 97, 114, 101, 79, 102, 83, 107, 101, 119], [108, 111, 111, 112, 46, 101, 120, 97, 109, 112, 108, 101, 47, 103, 48, 49, 50, 52, 53, 47, 108, 97, 119, 115, 46, 70, 110, 69, 120, 97, 99, 116, 65, 100, 100, 65, 99, 116, 105, 111, 110, 115], [108, 111, 111, 112, 46, 101, 120, 97, 109, 112, 108, 101, 47, 103, 48, 49, 50, 52, 53, 47, 108, 97, 119, 115, 46, 70, 110, 69, 120, 97, 99, 116, 67, 111, 109, 112, 111, 115, 101, 65, 99, 116, 105, 111, 110, 115], [108, 111, 111, 112, 46, 101, 120, 97, 109, 112, 108, 101, 47, 103, 48, 49, 50, 52, 53, 47, 108, 97, 119, 115, 46, 70, 110, 69, 120, 97, 99, 116, 75, 101, 114, 110, 101, 108, 79, 102, 83, 107, 101, 119]]
def initSigns : List Nat := [104, 97, 114, 110, 101, 115, 115, 32, 98, 57, 48, 99, 57, 51, 56, 49, 99, 102, 101, 100, 48, 56, 52, 98, 97, 48, 49, 54, 98, 53, 101, 53, 56, 98, 52, 101, 97, 101, 51, 97, 48, 55, 98, 56, 50, 57, 57, 51, 98, 99, 101, 101, 55, 52, 50, 52, 48, 98, 102, 102, 99, 51, 50, 55, 52, 50, 52, 54, 51, 101, 51, 101, 32, 99, 117, 116] ++ initRest.flatMap fun x => 32 :: x
theorem init_split : behindMainWord (wordsSigns (initSigns.map Char.ofNat)) = cutW :: initRest.map (fun w => w.map Char.ofNat) := by kernel_rfl
theorem init_order : Try.prog.initOrder = String.ofList (initSigns.map Char.ofNat) := by kernel_rfl
theorem init_cut : behindMainWord (wordsSigns Try.prog.initOrder.toList) = cutW :: initRest.map (fun w => w.map Char.ofNat) :=
 (congrArg (fun s : String => behindMainWord (wordsSigns s.toList)) init_order).trans ((congrArg (fun l => behindMainWord (wordsSigns l)) String.toList_ofList).trans init_split)
theorem Try.laysLater : Try.prog.laysLater = false := by kernel_rfl
theorem Try.bearsReflect : Try.prog.bearsReflect = false := by kernel_rfl
theorem Try.doorFits : Try.prog.doorFits [] = true := by kernel_rfl
theorem Try.mayEnter : Try.pinned.checked.prog.mayEnter = true := mayEnter_cut init_cut Try.laysLater Try.bearsReflect Try.doorFits
theorem Try.liftsFinal : Try.pinned.checked.prog.liftsFinal = false := lifts_cut init_cut
theorem Try.make : Try.pinned.checked.prog.make = some .cut := make_cut init_cut
end Go.Proofs.Ytelgefgphhebnaa
end
