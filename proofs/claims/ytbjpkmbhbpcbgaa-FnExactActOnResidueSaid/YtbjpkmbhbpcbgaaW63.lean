/-
  Walks: the action on a residue.
-/
import Derived.Test.YtbjpkmbhbpcbgaaW61
namespace Go.Proofs.Ytbjpkmbhbpcbgaa
open Go Go.RowKit
set_option linter.unusedVariables false
set_option linter.unusedSimpArgs false
attribute [local irreducible] deg resP acS caC
/-- both answers -/
def aoV (p : Int) (a x m : Nat → Nat) : (Nat → Nat) × Int := if modV p m [a, x] = 0 then (acS p.toNat m a (resP p.toNat x m) (deg a + 1).toNat, 0) else (fun _ => 0, modV p m [a, x])
theorem aoV_code {p c : Int} {a x m : Nat → Nat} (h : modV p m [a, x] = c) (h2 : c ≠ 0) : aoV p a x m = (fun _ => 0, c) := by unfold aoV; rw [h, if_neg h2]
theorem aoV_ok {n : Nat} {a x m : Nat → Nat} (h : modV (n : Int) m [a, x] = 0) : aoV (n : Int) a x m = (acS n m a (resP n x m) (deg a + 1).toNat, 0) := by unfold aoV; rw [if_pos h]; rfl
set_option maxRecDepth 100000 in
set_option maxHeartbeats 3200000 in
theorem spec_ActOnResidue_any (p : Int) (a x m : Nat → Nat) (ha : byte a) (hx : byte x) (hm : byte m) (w : World) :
    Calls Try.prog 48 #[.int .i64 p, .agg (bcells 64 a), .agg (bcells 64 x), .agg (bcells 64 m)] w fun e w' => e = .returned (.tuple #[.agg (bcells 64 (aoV p a x m).1), .int .i64 (aoV p a x m).2]) ∧ Below w.heap.size w w' := by
  go_enter Try.func48, Try.ntmps48
  go_upto_region 1 with (fail)
  rw [← zero64]
  obtain ⟨W1, hwo⟩ : ∃ v : World, v = ((((w.alloc (.cells (bcells 64 (a)) 23)).alloc (.cells (bcells 64 (x)) 23)).alloc (.cells (bcells 64 (m)) 23)).alloc (.cells (bcells 64 fun _ => 0) 23)) := ⟨_, rfl⟩
  have B0 : Blk W1 (w.heap.size) 64 23 (a) := by subst hwo; have := ((((Blk.new w 64 23 (a)).alloc (.cells (bcells 64 (x)) 23)).alloc (.cells (bcells 64 (m)) 23)).alloc (.cells (bcells 64 fun _ => 0) 23)); simpa using this
  have B1 : Blk W1 (w.heap.size + 1) 64 23 (x) := by subst hwo; have := (((Blk.new (w.alloc (.cells (bcells 64 (a)) 23)) 64 23 (x)).alloc (.cells (bcells 64 (m)) 23)).alloc (.cells (bcells 64 fun _ => 0) 23)); simpa using this
  have B2 : Blk W1 (w.heap.size + 1 + 1) 64 23 (m) := by subst hwo; have := ((Blk.new ((w.alloc (.cells (bcells 64 (a)) 23)).alloc (.cells (bcells 64 (x)) 23)) 64 23 (m)).alloc (.cells (bcells 64 fun _ => 0) 23)); simpa using this
  have B3 : Blk W1 (w.heap.size + 1 + 1 + 1) 64 23 (fun _ => 0) := by subst hwo; have := (Blk.new (((w.alloc (.cells (bcells 64 (a)) 23)).alloc (.cells (bcells 64 (x)) 23)).alloc (.cells (bcells 64 (m)) 23)) 64 23 (fun _ => 0)); simpa using this
  have hb : Below w.heap.size w W1 := by subst hwo; exact (((((Below.refl _ _).alloc (Nat.le_refl _) _).alloc (by simp) _).alloc (by simp; omega) _).alloc (by simp; omega) _)
  rw [← hwo]
  clear hwo
  go_upto_region 2 with (first | (refine wpList_load_any rfl 23 (.tmp 7) rfl _ rfl 64 23 _ B2 _ Try.underlying23 rfl Try.size23 ?_) | (refine wpList_load_any rfl 23 (.tmp 5) rfl _ rfl 64 23 _ B0 _ Try.underlying23 rfl Try.size23 ?_) | (refine wpList_load_any rfl 23 (.tmp 6) rfl _ rfl 64 23 _ B1 _ Try.underlying23 rfl Try.size23 ?_) | (refine wpList_build_polys rfl 47 _ [a, x] rfl 23 rfl Try.underlying47 Try.elem23 (by simp) (by simp) rfl ?_; intro wa hwa hps hba; clear hwa) | (go_at_call 82; refine (l02Modulus_any p m hm [a, x] (by simp [ha, hx]) _ _ hps (by simp)).mono ?_; rintro e W2 ⟨rfl, hbb⟩))
  have hBB : Below W1.heap.size W1 W2 := hba.trans (hbb.mono hba.size)
  replace B0 := B0.below hBB B0.lt
  replace B1 := B1.below hBB B1.lt
  replace B2 := B2.below hBB B2.lt
  replace B3 := B3.below hBB B3.lt
  replace hb := hb.trans (hBB.mono hb.size)
  clear hBB hba hbb hps
  rcases modV_cases (p := p) (m := m) (fs := [a, x]) with ⟨c, hc, hc0, hc12⟩ | ⟨hc, hcm, hcf, hm5⟩
  · have HV := Lib.hid (aoV_code hc hc0)
    rw [hc]
    clear hc
    have hb1 : ((c : Int) != 0) = true := by simp [hc0]
    go_upto_region 3 with (fail)
    have lt_B0 := B0.lt
    have lt_B1 := B1.lt
    have lt_B2 := B2.lt
    have lt_B3 := B3.lt
    go_wp2_with (first | rw [← zero64] | (refine wpList_store_blk rfl 23 (.tmp 8) (.tmp 19) rfl _ 64 (fun _ => 0) rfl rfl 23 _ (B3) Try.size23 ?_; try simp only [Act.put]; go_wp2_with fail))
    have qB0 : Blk (W2.setRow (w.heap.size + 1 + 1 + 1) (bcells 64 (fun _ => 0))) (w.heap.size) 64 23 (a) := (B0.rowOther (by omega))
    have qB1 : Blk (W2.setRow (w.heap.size + 1 + 1 + 1) (bcells 64 (fun _ => 0))) (w.heap.size + 1) 64 23 (x) := (B1.rowOther (by omega))
    have qB2 : Blk (W2.setRow (w.heap.size + 1 + 1 + 1) (bcells 64 (fun _ => 0))) (w.heap.size + 1 + 1) 64 23 (m) := (B2.rowOther (by omega))
    have qB3 : Blk (W2.setRow (w.heap.size + 1 + 1 + 1) (bcells 64 (fun _ => 0))) (w.heap.size + 1 + 1 + 1) 64 23 (fun _ => 0) := (B3.row (fun _ => 0))
    have qhb : Below w.heap.size w (W2.setRow (w.heap.size + 1 + 1 + 1) (bcells 64 (fun _ => 0))) := (below_row hb (by omega) _)
    obtain ⟨W11, hwo⟩ : ∃ v : World, v = (W2.setRow (w.heap.size + 1 + 1 + 1) (bcells 64 (fun _ => 0))) := ⟨_, rfl⟩
    rw [← hwo] at qB0 qB1 qB2 qB3 qhb ⊢
    clear hwo
    clear B0 B1 B2 B3 hb
    have B0 := qB0
    have B1 := qB1
    have B2 := qB2
    have B3 := qB3
    have hb := qhb
    clear qB0 qB1 qB2 qB3 qhb
    try simp only [Act.put, List.setIfInBounds_toArray, List.set_cons_zero, List.set_cons_succ]
    refine bodyPost_ret (results_bt rfl _ _ _ 64 23 5 _ rfl B3 Try.underlying23 Try.size23) rfl ⟨by first | (rw [HV.out]; rfl) | rw [HV.out], hb⟩
  · obtain ⟨n, hn, n2, n7⟩ := okP_nat (codeL_zero hcf).1
    subst hn
    have la := lt_of_code hcf (f := a) (by simp)
    have lx := lt_of_code hcf (f := x) (by simp)
    have lm := lt_of_code hcm (f := m) (by simp)
    have hpr := prime_of hcf
    obtain ⟨d, hmon, hd1, hd5⟩ := mon_up hm5
    have h0 : 0 ≤ deg m := by rw [hmon.1]; omega
    have h9 : deg m ≤ 9 := by rw [hmon.1]; omega
    have HV := Lib.hid (aoV_ok hc)
    have HAC := Lib.hid (fun W => l04Act_any n a x m W hpr la lx lm h0)
    rw [hc]
    clear hc hmon hd1 hd5 hm5 hcm hcf
    go_upto_region 4 with (fail)
    have lt_B0 := B0.lt
    have lt_B1 := B1.lt
    have lt_B2 := B2.lt
    have lt_B3 := B3.lt
    go_wp2_with (first | rw [← zero64] | (refine wpList_load_any rfl 23 (.tmp 5) rfl _ rfl 64 23 _ (B0) _ Try.underlying23 rfl Try.size23 ?_) | (refine wpList_load_any rfl 23 (.tmp 6) rfl _ rfl 64 23 _ (B1) _ Try.underlying23 rfl Try.size23 ?_) | (refine wpList_load_any rfl 23 (.tmp 7) rfl _ rfl 64 23 _ (B2) _ Try.underlying23 rfl Try.size23 ?_) | (go_at_call 111; refine (HAC.out _).mono ?_; rintro e W11 ⟨rfl, hW11⟩; replace B0 := B0.below hW11 B0.lt; replace B1 := B1.below hW11 B1.lt; replace B2 := B2.below hW11 B2.lt; replace B3 := B3.below hW11 B3.lt; replace hb := (hb).trans (hW11.mono (hb).size)) | (refine wpList_store_blk rfl 23 (.tmp 8) (.tmp 25) rfl _ 64 (acS n m a (resP n x m) (deg a + 1).toNat) rfl rfl 23 _ (B3) Try.size23 ?_; try simp only [Act.put]; go_wp2_with fail))
    have qB0 : Blk (W11.setRow (w.heap.size + 1 + 1 + 1) (bcells 64 (acS n m a (resP n x m) (deg a + 1).toNat))) (w.heap.size) 64 23 (a) := (B0.rowOther (by omega))
    have qB1 : Blk (W11.setRow (w.heap.size + 1 + 1 + 1) (bcells 64 (acS n m a (resP n x m) (deg a + 1).toNat))) (w.heap.size + 1) 64 23 (x) := (B1.rowOther (by omega))
    have qB2 : Blk (W11.setRow (w.heap.size + 1 + 1 + 1) (bcells 64 (acS n m a (resP n x m) (deg a + 1).toNat))) (w.heap.size + 1 + 1) 64 23 (m) := (B2.rowOther (by omega))
    have qB3 : Blk (W11.setRow (w.heap.size + 1 + 1 + 1) (bcells 64 (acS n m a (resP n x m) (deg a + 1).toNat))) (w.heap.size + 1 + 1 + 1) 64 23 (acS n m a (resP n x m) (deg a + 1).toNat) := (B3.row (acS n m a (resP n x m) (deg a + 1).toNat))
    have qhb : Below w.heap.size w (W11.setRow (w.heap.size + 1 + 1 + 1) (bcells 64 (acS n m a (resP n x m) (deg a + 1).toNat))) := (below_row hb (by omega) _)
    obtain ⟨W12, hwo⟩ : ∃ v : World, v = (W11.setRow (w.heap.size + 1 + 1 + 1) (bcells 64 (acS n m a (resP n x m) (deg a + 1).toNat))) := ⟨_, rfl⟩
    rw [← hwo] at qB0 qB1 qB2 qB3 qhb ⊢
    clear hwo
    clear B0 B1 B2 B3 hb
    have B0 := qB0
    have B1 := qB1
    have B2 := qB2
    have B3 := qB3
    have hb := qhb
    clear qB0 qB1 qB2 qB3 qhb
    try simp only [Act.put, List.setIfInBounds_toArray, List.set_cons_zero, List.set_cons_succ]
    refine bodyPost_ret (results_bt rfl _ _ _ 64 23 5 _ rfl B3 Try.underlying23 Try.size23) rfl ⟨by first | (rw [HV.out]; rfl) | rw [HV.out], hb⟩
set_option maxRecDepth 100000 in
set_option maxHeartbeats 3200000 in
theorem impl_ActOnResidue_any (p : Int) (a x m : Nat → Nat) (ha : byte a) (hx : byte x) (hm : byte m) (w : World) :
    Calls Try.prog 49 #[.int .i64 p, .agg (bcells 64 a), .agg (bcells 64 x), .agg (bcells 64 m)] w fun e w' => e = .returned (.tuple #[.agg (bcells 64 (aoV p a x m).1), .int .i64 (aoV p a x m).2]) ∧ Below w.heap.size w w' := by
  go_enter Try.func49, Try.ntmps49
  go_upto_region 1 with (fail)
  rw [← zero64]
  obtain ⟨W1, hwo⟩ : ∃ v : World, v = ((((w.alloc (.cells (bcells 64 (a)) 23)).alloc (.cells (bcells 64 (x)) 23)).alloc (.cells (bcells 64 (m)) 23)).alloc (.cells (bcells 64 fun _ => 0) 23)) := ⟨_, rfl⟩
  have B0 : Blk W1 (w.heap.size) 64 23 (a) := by subst hwo; have := ((((Blk.new w 64 23 (a)).alloc (.cells (bcells 64 (x)) 23)).alloc (.cells (bcells 64 (m)) 23)).alloc (.cells (bcells 64 fun _ => 0) 23)); simpa using this
  have B1 : Blk W1 (w.heap.size + 1) 64 23 (x) := by subst hwo; have := (((Blk.new (w.alloc (.cells (bcells 64 (a)) 23)) 64 23 (x)).alloc (.cells (bcells 64 (m)) 23)).alloc (.cells (bcells 64 fun _ => 0) 23)); simpa using this
  have B2 : Blk W1 (w.heap.size + 1 + 1) 64 23 (m) := by subst hwo; have := ((Blk.new ((w.alloc (.cells (bcells 64 (a)) 23)).alloc (.cells (bcells 64 (x)) 23)) 64 23 (m)).alloc (.cells (bcells 64 fun _ => 0) 23)); simpa using this
  have B3 : Blk W1 (w.heap.size + 1 + 1 + 1) 64 23 (fun _ => 0) := by subst hwo; have := (Blk.new (((w.alloc (.cells (bcells 64 (a)) 23)).alloc (.cells (bcells 64 (x)) 23)).alloc (.cells (bcells 64 (m)) 23)) 64 23 (fun _ => 0)); simpa using this
  have hb : Below w.heap.size w W1 := by subst hwo; exact (((((Below.refl _ _).alloc (Nat.le_refl _) _).alloc (by simp) _).alloc (by simp; omega) _).alloc (by simp; omega) _)
  rw [← hwo]
  clear hwo
  go_upto_region 2 with (first | (refine wpList_load_any rfl 23 (.tmp 7) rfl _ rfl 64 23 _ B2 _ Try.underlying23 rfl Try.size23 ?_) | (refine wpList_load_any rfl 23 (.tmp 5) rfl _ rfl 64 23 _ B0 _ Try.underlying23 rfl Try.size23 ?_) | (refine wpList_load_any rfl 23 (.tmp 6) rfl _ rfl 64 23 _ B1 _ Try.underlying23 rfl Try.size23 ?_) | (refine wpList_build_polys rfl 47 _ [a, x] rfl 23 rfl Try.underlying47 Try.elem23 (by simp) (by simp) rfl ?_; intro wa hwa hps hba; clear hwa) | (go_at_call 87; refine (checkModulus_any p m hm [a, x] (by simp [ha, hx]) _ _ hps (by simp)).mono ?_; rintro e W2 ⟨rfl, hbb⟩))
  have hBB : Below W1.heap.size W1 W2 := hba.trans (hbb.mono hba.size)
  replace B0 := B0.below hBB B0.lt
  replace B1 := B1.below hBB B1.lt
  replace B2 := B2.below hBB B2.lt
  replace B3 := B3.below hBB B3.lt
  replace hb := hb.trans (hBB.mono hb.size)
  clear hBB hba hbb hps
  rcases modV_cases (p := p) (m := m) (fs := [a, x]) with ⟨c, hc, hc0, hc12⟩ | ⟨hc, hcm, hcf, hm5⟩
  · have HV := Lib.hid (aoV_code hc hc0)
    rw [hc]
    clear hc
    have hb1 : ((c : Int) != 0) = true := by simp [hc0]
    go_upto_region 3 with (fail)
    have lt_B0 := B0.lt
    have lt_B1 := B1.lt
    have lt_B2 := B2.lt
    have lt_B3 := B3.lt
    go_wp2_with (first | rw [← zero64] | (refine wpList_store_blk rfl 23 (.tmp 8) (.tmp 19) rfl _ 64 (fun _ => 0) rfl rfl 23 _ (B3) Try.size23 ?_; try simp only [Act.put]; go_wp2_with fail))
    have qB0 : Blk (W2.setRow (w.heap.size + 1 + 1 + 1) (bcells 64 (fun _ => 0))) (w.heap.size) 64 23 (a) := (B0.rowOther (by omega))
    have qB1 : Blk (W2.setRow (w.heap.size + 1 + 1 + 1) (bcells 64 (fun _ => 0))) (w.heap.size + 1) 64 23 (x) := (B1.rowOther (by omega))
    have qB2 : Blk (W2.setRow (w.heap.size + 1 + 1 + 1) (bcells 64 (fun _ => 0))) (w.heap.size + 1 + 1) 64 23 (m) := (B2.rowOther (by omega))
    have qB3 : Blk (W2.setRow (w.heap.size + 1 + 1 + 1) (bcells 64 (fun _ => 0))) (w.heap.size + 1 + 1 + 1) 64 23 (fun _ => 0) := (B3.row (fun _ => 0))
    have qhb : Below w.heap.size w (W2.setRow (w.heap.size + 1 + 1 + 1) (bcells 64 (fun _ => 0))) := (below_row hb (by omega) _)
    obtain ⟨W11, hwo⟩ : ∃ v : World, v = (W2.setRow (w.heap.size + 1 + 1 + 1) (bcells 64 (fun _ => 0))) := ⟨_, rfl⟩
    rw [← hwo] at qB0 qB1 qB2 qB3 qhb ⊢
    clear hwo
    clear B0 B1 B2 B3 hb
    have B0 := qB0
    have B1 := qB1
    have B2 := qB2
    have B3 := qB3
    have hb := qhb
    clear qB0 qB1 qB2 qB3 qhb
    try simp only [Act.put, List.setIfInBounds_toArray, List.set_cons_zero, List.set_cons_succ]
    refine bodyPost_ret (results_bt rfl _ _ _ 64 23 5 _ rfl B3 Try.underlying23 Try.size23) rfl ⟨by first | (rw [HV.out]; rfl) | rw [HV.out], hb⟩
  · obtain ⟨n, hn, n2, n7⟩ := okP_nat (codeL_zero hcf).1
    subst hn
    have la := lt_of_code hcf (f := a) (by simp)
    have lx := lt_of_code hcf (f := x) (by simp)
    have lm := lt_of_code hcm (f := m) (by simp)
    have hpr := prime_of hcf
    obtain ⟨d, hmon, hd1, hd5⟩ := mon_up hm5
    have h0 : 0 ≤ deg m := by rw [hmon.1]; omega
    have h9 : deg m ≤ 9 := by rw [hmon.1]; omega
    have HV := Lib.hid (aoV_ok hc)
    have HRO := Lib.hid (fun W => restOf_any n x m W hpr lx lm h0)
    have HAC := Lib.hid (fun W => act_any n a (resP n x m) m W la hpr (resP_lt (by omega) lx) lm h0 h9 (resP_deg hpr lx lm h0).1)
    rw [hc]
    clear hc hmon hd1 hd5 hm5 hcm hcf
    go_upto_region 4 with (fail)
    have lt_B0 : (w.heap.size) < W2.heap.size := B0.lt
    have lt_B1 : (w.heap.size + 1) < W2.heap.size := B1.lt
    have lt_B2 : (w.heap.size + 1 + 1) < W2.heap.size := B2.lt
    have lt_B3 : (w.heap.size + 1 + 1 + 1) < W2.heap.size := B3.lt
    have hbase : w.heap.size ≤ W2.heap.size := hb.size
    refine wp_region_steps0 Try.mixed (by kernel_rfl) (by kernel_rfl) (fun v => by (simp only [frL, Act.put, List.setIfInBounds_toArray, List.set_cons_zero, List.set_cons_succ, Nat.reduceAdd, Nat.zero_add]; exact rfl))
      (fun L v W11 => Below w.heap.size w W11 ∧ W2.heap.size ≤ W11.heap.size ∧ Blk W11 (w.heap.size) 64 23 (a) ∧ Blk W11 (w.heap.size + 1) 64 23 (x) ∧ Blk W11 (w.heap.size + 1 + 1) 64 23 (m) ∧ (∃ g, Blk W11 (w.heap.size + 1 + 1 + 1) 64 23 (g)) ∧ (L 9 = false → Blk W11 (w.heap.size + 1 + 1 + 1) 64 23 (fun _ => 0)) ∧ (L 9 = true → Blk W11 (w.heap.size + 1 + 1 + 1) 64 23 (acS n m a (resP n x m) (deg a + 1).toNat)) ∧ (L 0 = true → v 0 = (.int .i64 (n : Int))) ∧ (L 1 = true → v 1 = (.agg (bcells 64 (m)))) ∧ (L 2 = true → v 2 = (.agg (caC n m).toArray)) ∧ (L 3 = true → v 3 = (.agg (bcells 64 (a)))) ∧ (L 4 = true → v 4 = (.int .i64 (n : Int))) ∧ (L 5 = true → v 5 = (.agg (bcells 64 (x)))) ∧ (L 6 = true → v 6 = (.agg (bcells 64 (m)))) ∧ (L 7 = true → v 7 = (.agg (bcells 64 (resP n x m)))) ∧ (L 8 = true → v 8 = (.agg (bcells 64 (acS n m a (resP n x m) (deg a + 1).toNat)))) ∧ (L 10 = true → v 10 = (.int .i64 0))) ?_ ?_ ?_
    · intro v hv0
      exact ⟨hb.drew, Nat.le_refl _, B0.drew, B1.drew, B2.drew, ⟨_, B3.drew⟩, (fun _ => B3.drew), (fun h => by cases h), (fun h => by cases h), (fun h => by cases h), (fun h => by cases h), (fun h => by cases h), (fun h => by cases h), (fun h => by cases h), (fun h => by cases h), (fun h => by cases h), (fun h => by cases h), (fun h => by cases h)⟩
    · refine (.cons rfl ?_ (.cons rfl ?_ (.cons rfl ?_ (.cons rfl ?_ (.cons rfl ?_ (.cons rfl ?_ (.cons rfl ?_ (.cons rfl ?_ (.cons rfl ?_ (.cons rfl ?_ (.cons rfl ?_ (.nil _))))))))))))
      · intro L v W11 hd hn ⟨hB, hz, s0, s1, s2, x3, q3, n3, h0, h1, h2, h3, h4, h5, h6, h7, h8, h10⟩ K hK
        go_wp2_with fail
        exact hK _ (.int .i64 (n : Int)) _ (by simp only [Act.put, List.setIfInBounds_toArray, List.set_cons_zero, List.set_cons_succ ]) ⟨hB, hz, s0, s1, s2, x3, q3, n3, (fun _ => rfl), h1, h2, h3, h4, h5, h6, h7, h8, h10⟩
      · intro L v W11 hd hn ⟨hB, hz, s0, s1, s2, x3, q3, n3, h0, h1, h2, h3, h4, h5, h6, h7, h8, h10⟩ K hK
        refine wp_load_any 23 _ rfl _ rfl 64 23 _ s2 _ Try.underlying23 rfl Try.size23 ?_
        exact hK _ _ _ rfl ⟨hB, hz, s0, s1, s2, x3, q3, n3, h0, (fun _ => rfl), h2, h3, h4, h5, h6, h7, h8, h10⟩
      · intro L v W11 hd hn ⟨hB, hz, s0, s1, s2, x3, q3, n3, h0, h1, h2, h3, h4, h5, h6, h7, h8, h10⟩ K hK
        have e0 := h0 (hd ⟨0, .data⟩ (by simp) rfl)
        have e1 := h1 (hd ⟨1, .data⟩ (by simp) rfl)
        refine wp_build_of 95 _ rfl (caC n m).toArray (by rw [Array.toList_map]; simp only [e0, e1, Act.eval]; exact built_ca n m) ?_
        exact hK _ _ _ rfl ⟨hB, hz, s0, s1, s2, x3, q3, n3, h0, h1, (fun _ => rfl), h3, h4, h5, h6, h7, h8, h10⟩
      · intro L v W11 hd hn ⟨hB, hz, s0, s1, s2, x3, q3, n3, h0, h1, h2, h3, h4, h5, h6, h7, h8, h10⟩ K hK
        refine wp_load_any 23 _ rfl _ rfl 64 23 _ s0 _ Try.underlying23 rfl Try.size23 ?_
        exact hK _ _ _ rfl ⟨hB, hz, s0, s1, s2, x3, q3, n3, h0, h1, h2, (fun _ => rfl), h4, h5, h6, h7, h8, h10⟩
      · intro L v W11 hd hn ⟨hB, hz, s0, s1, s2, x3, q3, n3, h0, h1, h2, h3, h4, h5, h6, h7, h8, h10⟩ K hK
        go_wp2_with fail
        exact hK _ (.int .i64 (n : Int)) _ (by simp only [Act.put, List.setIfInBounds_toArray, List.set_cons_zero, List.set_cons_succ ]) ⟨hB, hz, s0, s1, s2, x3, q3, n3, h0, h1, h2, h3, (fun _ => rfl), h5, h6, h7, h8, h10⟩
      · intro L v W11 hd hn ⟨hB, hz, s0, s1, s2, x3, q3, n3, h0, h1, h2, h3, h4, h5, h6, h7, h8, h10⟩ K hK
        refine wp_load_any 23 _ rfl _ rfl 64 23 _ s1 _ Try.underlying23 rfl Try.size23 ?_
        exact hK _ _ _ rfl ⟨hB, hz, s0, s1, s2, x3, q3, n3, h0, h1, h2, h3, h4, (fun _ => rfl), h6, h7, h8, h10⟩
      · intro L v W11 hd hn ⟨hB, hz, s0, s1, s2, x3, q3, n3, h0, h1, h2, h3, h4, h5, h6, h7, h8, h10⟩ K hK
        refine wp_load_any 23 _ rfl _ rfl 64 23 _ s2 _ Try.underlying23 rfl Try.size23 ?_
        exact hK _ _ _ rfl ⟨hB, hz, s0, s1, s2, x3, q3, n3, h0, h1, h2, h3, h4, h5, (fun _ => rfl), h7, h8, h10⟩
      · intro L v W11 hd hn ⟨hB, hz, s0, s1, s2, x3, q3, n3, h0, h1, h2, h3, h4, h5, h6, h7, h8, h10⟩ K hK
        have e4 := h4 (hd ⟨4, .data⟩ (by simp) rfl)
        have e5 := h5 (hd ⟨5, .data⟩ (by simp) rfl)
        have e6 := h6 (hd ⟨6, .data⟩ (by simp) rfl)
        go_wp2_with (go_at_call 113; refine (HRO.out _).mono ?_; rintro e wy ⟨rfl, hy⟩)
        exact hK _ (.agg (bcells 64 (resP n x m))) _ (by simp only [Act.put, List.setIfInBounds_toArray, List.set_cons_zero, List.set_cons_succ, e4, e5, e6]) ⟨hB.trans (hy.mono hB.size), (Nat.le_trans hz hy.size), (s0).below hy (s0).lt, (s1).below hy (s1).lt, (s2).below hy (s2).lt, (let ⟨g, h⟩ := x3; ⟨g, (h).below hy (h).lt⟩), (fun h => (q3 h).below hy (q3 h).lt), (fun h => (n3 h).below hy (n3 h).lt), h0, h1, h2, h3, h4, h5, h6, (fun _ => rfl), h8, h10⟩
      · intro L v W11 hd hn ⟨hB, hz, s0, s1, s2, x3, q3, n3, h0, h1, h2, h3, h4, h5, h6, h7, h8, h10⟩ K hK
        have e2 := h2 (hd ⟨2, .data⟩ (by simp) rfl)
        have e3 := h3 (hd ⟨3, .data⟩ (by simp) rfl)
        have e7 := h7 (hd ⟨7, .data⟩ (by simp) rfl)
        go_wp2_with (go_at_call 112; refine (HAC.out _).mono ?_; rintro e wy ⟨rfl, hy⟩)
        exact hK _ (.agg (bcells 64 (acS n m a (resP n x m) (deg a + 1).toNat))) _ (by simp only [Act.put, List.setIfInBounds_toArray, List.set_cons_zero, List.set_cons_succ, e2, e3, e7]) ⟨hB.trans (hy.mono hB.size), (Nat.le_trans hz hy.size), (s0).below hy (s0).lt, (s1).below hy (s1).lt, (s2).below hy (s2).lt, (let ⟨g, h⟩ := x3; ⟨g, (h).below hy (h).lt⟩), (fun h => (q3 h).below hy (q3 h).lt), (fun h => (n3 h).below hy (n3 h).lt), h0, h1, h2, h3, h4, h5, h6, h7, (fun _ => rfl), h10⟩
      · intro L v W11 hd hn ⟨hB, hz, s0, s1, s2, x3, q3, n3, h0, h1, h2, h3, h4, h5, h6, h7, h8, h10⟩ K hK
        have e8 := h8 (hd ⟨8, .data⟩ (by simp) rfl)
        obtain ⟨gz, hk⟩ := x3
        refine wp_store_blk 23 _ _ rfl _ 64 (acS n m a (resP n x m) (deg a + 1).toNat) rfl e8 23 gz hk Try.size23 ?_
        exact hK _ undef _ rfl ⟨below_row hB (by omega) _, (by simpa [World.setRow] using hz), (s0).rowOther (by omega), (s1).rowOther (by omega), (s2).rowOther (by omega), ⟨_, hk.row _⟩, (fun h => absurd h (by simp [setL])), (fun _ => hk.row _), h0, h1, h2, h3, h4, h5, h6, h7, h8, h10⟩
      · intro L v W11 hd hn ⟨hB, hz, s0, s1, s2, x3, q3, n3, h0, h1, h2, h3, h4, h5, h6, h7, h8, h10⟩ K hK
        go_wp2_with fail
        exact hK _ (.int .i64 0) _ (by simp only [Act.put, List.setIfInBounds_toArray, List.set_cons_zero, List.set_cons_succ ]) ⟨hB, hz, s0, s1, s2, x3, q3, n3, h0, h1, h2, h3, h4, h5, h6, h7, h8, (fun _ => rfl)⟩
    · intro L v W11 hL ⟨hB, hz, s0, s1, s2, x3, q3, n3, h0, h1, h2, h3, h4, h5, h6, h7, h8, h10⟩
      have r3 := n3 (hL 9 (by decide))
      have e0 := h0 (hL 0 (by decide))
      have e1 := h1 (hL 1 (by decide))
      have e2 := h2 (hL 2 (by decide))
      have e3 := h3 (hL 3 (by decide))
      have e4 := h4 (hL 4 (by decide))
      have e5 := h5 (hL 5 (by decide))
      have e6 := h6 (hL 6 (by decide))
      have e7 := h7 (hL 7 (by decide))
      have e8 := h8 (hL 8 (by decide))
      have e10 := h10 (hL 10 (by decide))
      clear hL x3 q3 n3 h0 h1 h2 h3 h4 h5 h6 h7 h8 h10
      simp only [Exit.then, e0, e1, e2, e3, e4, e5, e6, e7, e8, e10]
      clear e0 e1 e2 e3 e4 e5 e6 e7 e8 e10
      clear B0
      have B0 := s0
      clear s0
      clear B1
      have B1 := s1
      clear s1
      clear B2
      have B2 := s2
      clear s2
      clear B3
      have B3 := r3
      clear r3
      clear hb
      have hb := hB
      clear hB
      clear hbase hz lt_B0 lt_B1 lt_B2 lt_B3
      go_wp2_with fail
      refine bodyPost_ret (results_bt rfl _ _ _ 64 23 5 _ rfl B3 Try.underlying23 Try.size23) rfl ⟨by first | (rw [HV.out]; rfl) | rw [HV.out], hb⟩
end Go.Proofs.Ytbjpkmbhbpcbgaa
