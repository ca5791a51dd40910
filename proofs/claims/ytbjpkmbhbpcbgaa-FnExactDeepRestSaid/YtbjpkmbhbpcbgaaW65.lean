/-
  Walks: deep rests.
-/
import Derived.Test.YtbjpkmbhbpcbgaaW61
namespace Go.Proofs.Ytbjpkmbhbpcbgaa
open Go Go.RowKit Rg
set_option linter.unusedVariables false
set_option linter.unusedSimpArgs false
theorem deg_sqr {p d : Nat} {m : Nat → Nat} (hp : p = 2 ∨ p = 3 ∨ p = 5 ∨ p = 7) (hm : mon m d) (hd : d ≤ 31) : deg (prd p m m) = ((2 * d : Nat) : Int) := by
  have hp0 : 0 < p := by omega
  have up : deg (prd p m m) ≤ ((2 * d : Nat) : Int) := deg_le (by omega) (fun k h1 _ => prd_above hp0 (by rw [hm.1]; omega))
  have h1 := prd_mz p m m (2 * d)
  have hl : lz m d = 1 := (mon_S hm).1
  have h2 : (p : Int) ∣ mz (lz m) (lz m) (2 * d) - lz m d * lz m (2 * d - d) := cs_but (t := fun i => lz m i * lz m (2 * d - i)) (2 * d + 1) (by omega) (fun i hi hne => by
    by_cases h : d < i
    · rw [lz_above hm.1 h, Int.zero_mul]; exact ⟨0, by simp⟩
    · rw [lz_above hm.1 (show d < 2 * d - i by omega), Int.mul_zero]; exact ⟨0, by simp⟩)
  rw [show 2 * d - d = d by omega, hl] at h2
  have h3 : prd p m m (2 * d) ≠ 0 := by
    intro h
    rw [h] at h1
    have := Int.dvd_add h1 h2
    have := dvd_small this (by omega) (by omega)
    omega
  rcases deg_spec (prd p m m) with ⟨_, h5⟩ | ⟨j, hj, h4, _, h5⟩
  · exact absurd (h5 _ (by omega)) h3
  · by_cases h : j < 2 * d
    · exact absurd (h5 _ h (by omega)) h3
    · omega
theorem caC_zero : (caC 0 (fun _ => 0)).toArray = Try.zeroCells95 := by unfold caC bl; kernel_rfl
/-- m less 1 -/
def lsP (n : Nat) (m : Nat → Nat) : Nat → Nat := addK n m oneP (-1)
/-- the deep rest -/
def drP (n : Nat) (x m : Nat → Nat) : Nat → Nat := acS n (prd n m m) (lsP n m) (resP n x m) (deg (lsP n m) + 1).toNat
noncomputable def drV (p : Int) (x m : Nat → Nat) : (Nat → Nat) × Int := if codeL p [x, m] = 0 then (if monUp 3 m = true then (if irB p.toNat m = true then (quoP p.toNat (drP p.toNat x m) m, 0) else (fun _ => 0, 5)) else (fun _ => 0, 2)) else (fun _ => 0, 1)
theorem drV_1 {p : Int} {x m : Nat → Nat} (h : codeL p [x, m] = 1) : drV p x m = (fun _ => 0, 1) := by unfold drV; rw [if_neg (by omega)]
theorem drV_2 {p : Int} {x m : Nat → Nat} (h : codeL p [x, m] = 0) (h2 : monUp 3 m = false) : drV p x m = (fun _ => 0, 2) := by unfold drV; rw [if_pos h, if_neg (by rw [h2]; simp)]
theorem drV_5 {n : Nat} {x m : Nat → Nat} (h : codeL (n : Int) [x, m] = 0) (h2 : monUp 3 m = true) (h3 : irB n m = false) : drV (n : Int) x m = (fun _ => 0, 5) := by unfold drV; rw [if_pos h, if_pos h2, Int.toNat_natCast, if_neg (by rw [h3]; simp)]
theorem drV_0 {n : Nat} {x m : Nat → Nat} (h : codeL (n : Int) [x, m] = 0) (h2 : monUp 3 m = true) (h3 : irB n m = true) : drV (n : Int) x m = (quoP n (drP n x m) m, 0) := by unfold drV; rw [if_pos h, if_pos h2, Int.toNat_natCast, if_pos h3]
section
variable {n d : Nat} {x m : Nat → Nat} (hp : n = 2 ∨ n = 3 ∨ n = 5 ∨ n = 7) (lx : ∀ k, k < 64 → x k < n) (lm : ∀ k, k < 64 → m k < n) (hmon : mon m d) (hd1 : 1 ≤ d) (hd3 : d ≤ 3)
include hp lx lm hmon hd1 hd3
theorem dr_ok : (∀ k, drP n x m k < n) ∧ deg (drP n x m) < ((2 * d : Nat) : Int) := by
  have hs := deg_sqr hp hmon (by omega)
  have h0 : 0 ≤ deg m := by rw [hmon.1]; omega
  have hx : deg (resP n x m) < deg (prd n m m) := by
    have := (resP_deg hp lx lm h0).1
    rw [hmon.1] at this; rw [hs]; omega
  obtain ⟨a, b, _⟩ := acS_ok (a := lsP n m) hp (fun k _ => prd_lt (by omega) k) (by rw [hs]; omega) (resP_lt (by omega) lx) hx (deg (lsP n m) + 1).toNat
  rw [hs] at b
  exact ⟨a, b⟩
theorem dr_quo : deg (quoP n (drP n x m) m) < deg m := by
  obtain ⟨a, b⟩ := dr_ok hp lx lm hmon hd1 hd3
  have h0 : 0 ≤ deg m := by rw [hmon.1]; omega
  rcases quoP_deg (p := n) (a := drP n x m) (b := m) (by omega) (fun k _ => a k) h0 with h | h
  · omega
  · rw [hmon.1] at h ⊢; omega
theorem dr_again : ∀ k, k < 64 → acS n (prd n m m) (lsP n m) (resP n (resP n x m) (prd n m m)) (deg (lsP n m) + 1).toNat k = drP n x m k := by
  have hs := deg_sqr hp hmon (by omega)
  have h0 : 0 ≤ deg m := by rw [hmon.1]; omega
  have hs0 : 0 ≤ deg (prd n m m) := by rw [hs]; omega
  have ls : ∀ k, k < 64 → prd n m m k < n := fun k _ => prd_lt (by omega) k
  have lr := resP_lt (p := n) (b := m) (by omega) lx
  have hx : deg (resP n x m) < deg (prd n m m) := by
    have := (resP_deg hp lx lm h0).1
    rw [hmon.1] at this; rw [hs]; omega
  obtain ⟨a1, a2, a3⟩ := acS_ok (a := lsP n m) hp ls hs0 lr hx (deg (lsP n m) + 1).toNat
  obtain ⟨b1, b2, b3⟩ := acS_ok (a := lsP n m) hp ls hs0 (resP_lt (b := prd n m m) (by omega) lr) (resP_deg hp lr ls hs0).1 (deg (lsP n m) + 1).toNat
  refine res_sameN hp (fun k _ => b1 k) (fun k _ => a1 k) ls hs0 b2 a2 (cl_eq.1 (?_ : (rs (acS n (prd n m m) (lsP n m) (resP n (resP n x m) (prd n m m)) (deg (lsP n m) + 1).toNat) : Res n (lz (prd n m m))) = rs (acS n (prd n m m) (lsP n m) (resP n x m) (deg (lsP n m) + 1).toNat)))
  rw [b3, a3, rs_res hp lr ls hs0]
end
attribute [local irreducible] deg resP acS caC irB irV monUp monB quoP prd drP lsP oneP addK
set_option maxRecDepth 100000 in
set_option maxHeartbeats 3200000 in
theorem spec_DeepRest_any (p : Int) (x m : Nat → Nat) (hx : byte x) (hm : byte m) (w : World) :
    Calls Try.prog 56 #[.int .i64 p, .agg (bcells 64 x), .agg (bcells 64 m)] w fun e w' => e = .returned (.tuple #[.agg (bcells 64 (drV p x m).1), .int .i64 (drV p x m).2]) ∧ Below w.heap.size w w' := by
  go_enter Try.func56, Try.ntmps56
  go_upto_region 1 with (fail)
  rw [← zero64]
  obtain ⟨W1, hwo⟩ : ∃ v : World, v = (((w.alloc (.cells (bcells 64 (x)) 23)).alloc (.cells (bcells 64 (m)) 23)).alloc (.cells (bcells 64 fun _ => 0) 23)) := ⟨_, rfl⟩
  have B0 : Blk W1 (w.heap.size) 64 23 (x) := by subst hwo; have := (((Blk.new w 64 23 (x)).alloc (.cells (bcells 64 (m)) 23)).alloc (.cells (bcells 64 fun _ => 0) 23)); simpa using this
  have B1 : Blk W1 (w.heap.size + 1) 64 23 (m) := by subst hwo; have := ((Blk.new (w.alloc (.cells (bcells 64 (x)) 23)) 64 23 (m)).alloc (.cells (bcells 64 fun _ => 0) 23)); simpa using this
  have B2 : Blk W1 (w.heap.size + 1 + 1) 64 23 (fun _ => 0) := by subst hwo; have := (Blk.new ((w.alloc (.cells (bcells 64 (x)) 23)).alloc (.cells (bcells 64 (m)) 23)) 64 23 (fun _ => 0)); simpa using this
  have hb : Below w.heap.size w W1 := by subst hwo; exact ((((Below.refl _ _).alloc (Nat.le_refl _) _).alloc (by simp) _).alloc (by simp; omega) _)
  rw [← hwo]
  clear hwo
  rcases codeL_two p [x, m] with hc | hc
  · obtain ⟨n, hn, n2, n7⟩ := okP_nat (codeL_zero hc).1
    subst hn
    have lx := lt_of_code hc (f := x) (by simp)
    have lm := lt_of_code hc (f := m) (by simp)
    have hpr := prime_of hc
    cases hm3 : monUp 3 m with
    | false =>
      have HV := Lib.hid (drV_2 hc hm3)
      go_upto_region 3 with (first | (refine wpList_load_any rfl 23 (.tmp 4) rfl _ rfl 64 23 _ B0 _ Try.underlying23 rfl Try.size23 ?_) | (refine wpList_load_any rfl 23 (.tmp 5) rfl _ rfl 64 23 _ B1 _ Try.underlying23 rfl Try.size23 ?_) | (refine wpList_build_polys rfl 47 _ [x, m] rfl 23 rfl Try.underlying47 Try.elem23 (by simp) (by simp) rfl ?_; intro wa hwa hps hba; clear hwa) | (go_at_call 72; refine (l01Code_any (n : Int) [x, m] (by simp [hx, hm]) _ _ hps (by simp)).mono ?_; rintro e W2 ⟨rfl, hbb⟩; rw [hc]))
      have hBB : Below W1.heap.size W1 W2 := hba.trans (hbb.mono hba.size)
      replace B0 := B0.below hBB B0.lt
      replace B1 := B1.below hBB B1.lt
      replace B2 := B2.below hBB B2.lt
      replace hb := hb.trans (hBB.mono hb.size)
      clear hBB hba hbb hps
      clear hc
      rw [monUp_B] at hm3
      cases hmo : monB m with
      | false =>
        go_upto_region 4 with (first | (refine wpList_load_any rfl 23 (.tmp 5) rfl _ rfl 64 23 _ (B1) _ Try.underlying23 rfl Try.size23 ?_) | (go_at_call 121; refine (l01Monic_any m hm _).mono ?_; rintro e W3 ⟨rfl, hW3⟩; replace B0 := B0.below hW3 B0.lt; replace B1 := B1.below hW3 B1.lt; replace B2 := B2.below hW3 B2.lt; replace hb := (hb).trans (hW3.mono (hb).size); rw [hmo]))
        have lt_B0 := B0.lt
        have lt_B1 := B1.lt
        have lt_B2 := B2.lt
        go_wp2_with (first | rw [← zero64] | (refine wpList_store_blk rfl 23 (.tmp 6) (.tmp 31) rfl _ 64 (fun _ => 0) rfl rfl 23 _ (B2) Try.size23 ?_; try simp only [Act.put]; go_wp2_with fail))
        have qB0 : Blk (W3.setRow (w.heap.size + 1 + 1) (bcells 64 (fun _ => 0))) (w.heap.size) 64 23 (x) := (B0.rowOther (by omega))
        have qB1 : Blk (W3.setRow (w.heap.size + 1 + 1) (bcells 64 (fun _ => 0))) (w.heap.size + 1) 64 23 (m) := (B1.rowOther (by omega))
        have qB2 : Blk (W3.setRow (w.heap.size + 1 + 1) (bcells 64 (fun _ => 0))) (w.heap.size + 1 + 1) 64 23 (fun _ => 0) := (B2.row (fun _ => 0))
        have qhb : Below w.heap.size w (W3.setRow (w.heap.size + 1 + 1) (bcells 64 (fun _ => 0))) := (below_row hb (by omega) _)
        obtain ⟨W4, hwo⟩ : ∃ v : World, v = (W3.setRow (w.heap.size + 1 + 1) (bcells 64 (fun _ => 0))) := ⟨_, rfl⟩
        rw [← hwo] at qB0 qB1 qB2 qhb ⊢
        clear hwo
        clear B0 B1 B2 hb
        have B0 := qB0
        have B1 := qB1
        have B2 := qB2
        have hb := qhb
        clear qB0 qB1 qB2 qhb
        try simp only [Act.put, List.setIfInBounds_toArray, List.set_cons_zero, List.set_cons_succ]
        refine bodyPost_ret (results_bt rfl _ _ _ 64 23 5 _ rfl B2 Try.underlying23 Try.size23) rfl ⟨by first | (rw [HV.out]; rfl) | rw [HV.out], hb⟩
      | true =>
        have hnr : ¬ (1 ≤ deg m ∧ deg m ≤ 3) := by intro h; rw [hmo] at hm3; simp at hm3; omega
        go_upto_region 4 with (first | (refine wpList_load_any rfl 23 (.tmp 5) rfl _ rfl 64 23 _ (B1) _ Try.underlying23 rfl Try.size23 ?_) | (go_at_call 121; refine (l01Monic_any m hm _).mono ?_; rintro e W3 ⟨rfl, hW3⟩; replace B0 := B0.below hW3 B0.lt; replace B1 := B1.below hW3 B1.lt; replace B2 := B2.below hW3 B2.lt; replace hb := (hb).trans (hW3.mono (hb).size); rw [hmo]) | (refine wpList_load_any_g rfl 23 (.tmp 5) rfl _ rfl 64 23 _ (B1) _ Try.underlying23 rfl Try.size23 ?_) | (go_at_call 73; refine (l01Deg_any m _).mono ?_; rintro e W4 ⟨rfl, hW4⟩; replace B0 := B0.below hW4 B0.lt; replace B1 := B1.below hW4 B1.lt; replace B2 := B2.below hW4 B2.lt; replace hb := (hb).trans (hW4.mono (hb).size)) | (go_at_call 74; refine (l01In_no (deg m) 1 3 hnr _).mono ?_; rintro e wS ⟨rfl, rfl⟩))
        have lt_B0 := B0.lt
        have lt_B1 := B1.lt
        have lt_B2 := B2.lt
        go_wp2_with (first | rw [← zero64] | (refine wpList_store_blk rfl 23 (.tmp 6) (.tmp 31) rfl _ 64 (fun _ => 0) rfl rfl 23 _ (B2) Try.size23 ?_; try simp only [Act.put]; go_wp2_with fail))
        have qB0 : Blk (W4.setRow (w.heap.size + 1 + 1) (bcells 64 (fun _ => 0))) (w.heap.size) 64 23 (x) := (B0.rowOther (by omega))
        have qB1 : Blk (W4.setRow (w.heap.size + 1 + 1) (bcells 64 (fun _ => 0))) (w.heap.size + 1) 64 23 (m) := (B1.rowOther (by omega))
        have qB2 : Blk (W4.setRow (w.heap.size + 1 + 1) (bcells 64 (fun _ => 0))) (w.heap.size + 1 + 1) 64 23 (fun _ => 0) := (B2.row (fun _ => 0))
        have qhb : Below w.heap.size w (W4.setRow (w.heap.size + 1 + 1) (bcells 64 (fun _ => 0))) := (below_row hb (by omega) _)
        obtain ⟨W5, hwo⟩ : ∃ v : World, v = (W4.setRow (w.heap.size + 1 + 1) (bcells 64 (fun _ => 0))) := ⟨_, rfl⟩
        rw [← hwo] at qB0 qB1 qB2 qhb ⊢
        clear hwo
        clear B0 B1 B2 hb
        have B0 := qB0
        have B1 := qB1
        have B2 := qB2
        have hb := qhb
        clear qB0 qB1 qB2 qhb
        try simp only [Act.put, List.setIfInBounds_toArray, List.set_cons_zero, List.set_cons_succ]
        refine bodyPost_ret (results_bt rfl _ _ _ 64 23 5 _ rfl B2 Try.underlying23 Try.size23) rfl ⟨by first | (rw [HV.out]; rfl) | rw [HV.out], hb⟩
    | true =>
      obtain ⟨d, hmon, hd1, hd5⟩ := mon_up hm3
      have h0 : 0 ≤ deg m := by rw [hmon.1]; omega
      have h12 : deg m ≤ 12 := by rw [hmon.1]; omega
      have hmo : monB m = true := by
        have h5 := hm3
        rw [monUp_B] at h5
        simp only [Bool.and_eq_true, decide_eq_true_eq] at h5
        exact h5.1
      have hyr : 1 ≤ deg m ∧ deg m ≤ 3 := by rw [hmon.1]; omega
      cases hu : irB n m with
      | false =>
        have HV := Lib.hid (drV_5 hc hm3 hu)
        have HI := Lib.hid (fun W => l01Irreducible_any n m d W hpr lm hmon (by omega))
        rw [hu] at HI
        go_upto_region 3 with (first | (refine wpList_load_any rfl 23 (.tmp 4) rfl _ rfl 64 23 _ B0 _ Try.underlying23 rfl Try.size23 ?_) | (refine wpList_load_any rfl 23 (.tmp 5) rfl _ rfl 64 23 _ B1 _ Try.underlying23 rfl Try.size23 ?_) | (refine wpList_build_polys rfl 47 _ [x, m] rfl 23 rfl Try.underlying47 Try.elem23 (by simp) (by simp) rfl ?_; intro wa hwa hps hba; clear hwa) | (go_at_call 72; refine (l01Code_any (n : Int) [x, m] (by simp [hx, hm]) _ _ hps (by simp)).mono ?_; rintro e W2 ⟨rfl, hbb⟩; rw [hc]))
        have hBB : Below W1.heap.size W1 W2 := hba.trans (hbb.mono hba.size)
        replace B0 := B0.below hBB B0.lt
        replace B1 := B1.below hBB B1.lt
        replace B2 := B2.below hBB B2.lt
        replace hb := hb.trans (hBB.mono hb.size)
        clear hBB hba hbb hps
        clear hc
        go_upto_region 5 with (first | (refine wpList_load_any rfl 23 (.tmp 5) rfl _ rfl 64 23 _ (B1) _ Try.underlying23 rfl Try.size23 ?_) | (go_at_call 121; refine (l01Monic_any m hm _).mono ?_; rintro e W3 ⟨rfl, hW3⟩; replace B0 := B0.below hW3 B0.lt; replace B1 := B1.below hW3 B1.lt; replace B2 := B2.below hW3 B2.lt; replace hb := (hb).trans (hW3.mono (hb).size); rw [hmo]) | (refine wpList_load_any_g rfl 23 (.tmp 5) rfl _ rfl 64 23 _ (B1) _ Try.underlying23 rfl Try.size23 ?_) | (go_at_call 73; refine (l01Deg_any m _).mono ?_; rintro e W4 ⟨rfl, hW4⟩; replace B0 := B0.below hW4 B0.lt; replace B1 := B1.below hW4 B1.lt; replace B2 := B2.below hW4 B2.lt; replace hb := (hb).trans (hW4.mono (hb).size)) | (go_at_call 74; refine (l01In_yes (deg m) 1 3 hyr _).mono ?_; rintro e wS ⟨rfl, rfl⟩))
        go_upto_region 6 with (first | (refine wpList_load_any rfl 23 (.tmp 5) rfl _ rfl 64 23 _ (B1) _ Try.underlying23 rfl Try.size23 ?_) | (go_at_call 83; refine (HI.out _).mono ?_; rintro e W5 ⟨rfl, hW5⟩; replace B0 := B0.below hW5 B0.lt; replace B1 := B1.below hW5 B1.lt; replace B2 := B2.below hW5 B2.lt; replace hb := (hb).trans (hW5.mono (hb).size)))
        have lt_B0 := B0.lt
        have lt_B1 := B1.lt
        have lt_B2 := B2.lt
        go_wp2_with (first | rw [← zero64] | (refine wpList_store_blk rfl 23 (.tmp 6) (.tmp 37) rfl _ 64 (fun _ => 0) rfl rfl 23 _ (B2) Try.size23 ?_; try simp only [Act.put]; go_wp2_with fail))
        have qB0 : Blk (W5.setRow (w.heap.size + 1 + 1) (bcells 64 (fun _ => 0))) (w.heap.size) 64 23 (x) := (B0.rowOther (by omega))
        have qB1 : Blk (W5.setRow (w.heap.size + 1 + 1) (bcells 64 (fun _ => 0))) (w.heap.size + 1) 64 23 (m) := (B1.rowOther (by omega))
        have qB2 : Blk (W5.setRow (w.heap.size + 1 + 1) (bcells 64 (fun _ => 0))) (w.heap.size + 1 + 1) 64 23 (fun _ => 0) := (B2.row (fun _ => 0))
        have qhb : Below w.heap.size w (W5.setRow (w.heap.size + 1 + 1) (bcells 64 (fun _ => 0))) := (below_row hb (by omega) _)
        obtain ⟨W6, hwo⟩ : ∃ v : World, v = (W5.setRow (w.heap.size + 1 + 1) (bcells 64 (fun _ => 0))) := ⟨_, rfl⟩
        rw [← hwo] at qB0 qB1 qB2 qhb ⊢
        clear hwo
        clear B0 B1 B2 hb
        have B0 := qB0
        have B1 := qB1
        have B2 := qB2
        have hb := qhb
        clear qB0 qB1 qB2 qhb
        try simp only [Act.put, List.setIfInBounds_toArray, List.set_cons_zero, List.set_cons_succ]
        refine bodyPost_ret (results_bt rfl _ _ _ 64 23 5 _ rfl B2 Try.underlying23 Try.size23) rfl ⟨by first | (rw [HV.out]; rfl) | rw [HV.out], hb⟩
      | true =>
        have HV := Lib.hid (drV_0 hc hm3 hu)
        have HI := Lib.hid (fun W => l01Irreducible_any n m d W hpr lm hmon (by omega))
        rw [hu] at HI
        have hd3 : d ≤ 3 := by omega
        have hsq := deg_sqr hpr hmon (by omega)
        have ls : ∀ k, k < 64 → prd n m m k < n := fun k _ => prd_lt (by omega) k
        have hs0 : 0 ≤ deg (prd n m m) := by rw [hsq]; omega
        have hs9 : deg (prd n m m) ≤ 9 := by rw [hsq]; omega
        have lr := resP_lt (p := n) (b := m) (by omega) lx
        have hxs : deg (resP n x m) < deg (prd n m m) := by
          have := (resP_deg hpr lx lm h0).1
          rw [hmon.1] at this; rw [hsq]; omega
        have l1 : ∀ k, k < 64 → oneP k < n := fun k _ => by unfold oneP; split <;> omega
        have lls : ∀ k, k < 64 → lsP n m k < n := fun k _ => by unfold lsP; exact addK_lt (by omega) k
        obtain ⟨ldr, _⟩ := dr_ok hpr lx lm hmon hd1 hd3
        have HV2 := Lib.hid (show (drV (n : Int) x m).2 = 0 by rw [HV.out])
        have HE := Lib.hid (show bcells 64 (drV (n : Int) x m).1 = bcells 64 (quoP n (drP n x m) m) by rw [HV.out])
        
        have HTM := Lib.hid (fun W => l01Times_any n m m W n2 n7 lm lm)
        have HTV := Lib.hid (show tmV n m m = (prd n m m, true) from if_pos (by rw [hmon.1]; omega))
        have HAD := Lib.hid (show ∀ W, Calls Try.prog 107 #[.int .i64 (n : Int), .agg (bcells 64 m), .agg (bcells 64 oneP), .int .i64 (-1)] W fun e w' => e = .returned (.agg (bcells 64 (lsP n m))) ∧ Below W.heap.size W w' from fun W => by
          have h := l01Add_any n m oneP (-1) W n2 n7 (by omega) (by omega) lm l1
          unfold lsP; exact h)
        have HMO := Lib.hid (fun W => l01Mod_any n x m W hpr lx lm h0)
        have HAC := Lib.hid (show ∀ W, Calls Try.prog 111 #[.int .i64 (n : Int), .agg (bcells 64 (lsP n m)), .agg (bcells 64 (resP n x m)), .agg (bcells 64 (prd n m m))] W fun e w' => e = .returned (.agg (bcells 64 (drP n x m))) ∧ Below W.heap.size W w' from fun W => by
          have h := l04Act_any n (lsP n m) (resP n x m) (prd n m m) W hpr lls lr ls hs0
          rw [bcells_congr (dr_again hpr lx lm hmon hd1 hd3)] at h
          exact h)
        have HQR := Lib.hid (fun W => l01Divide_any n (drP n x m) m W hpr (fun k _ => ldr k) lm h0)
        have HMQ := Lib.hid (show ∀ W, Calls Try.prog 115 #[.int .i64 (n : Int), .agg (bcells 64 (quoP n (drP n x m) m)), .agg (bcells 64 m)] W fun e w' => e = .returned (.agg (bcells 64 (quoP n (drP n x m) m))) ∧ Below W.heap.size W w' from fun W => by
          have lq : ∀ k, k < 64 → quoP n (drP n x m) m k < n := fun k _ => quoP_lt (by omega) k
          have h := l01Mod_any n (quoP n (drP n x m) m) m W hpr lq lm h0
          rw [bcells_congr (resP_small (by omega) lq (dr_quo hpr lx lm hmon hd1 hd3))] at h
          exact h)
        clear hm3 hu hmon hsq ldr hxs hs0 hs9 h12
        go_upto_region 3 with (first | (refine wpList_load_any rfl 23 (.tmp 4) rfl _ rfl 64 23 _ B0 _ Try.underlying23 rfl Try.size23 ?_) | (refine wpList_load_any rfl 23 (.tmp 5) rfl _ rfl 64 23 _ B1 _ Try.underlying23 rfl Try.size23 ?_) | (refine wpList_build_polys rfl 47 _ [x, m] rfl 23 rfl Try.underlying47 Try.elem23 (by simp) (by simp) rfl ?_; intro wa hwa hps hba; clear hwa) | (go_at_call 72; refine (l01Code_any (n : Int) [x, m] (by simp [hx, hm]) _ _ hps (by simp)).mono ?_; rintro e W2 ⟨rfl, hbb⟩; rw [hc]))
        have hBB : Below W1.heap.size W1 W2 := hba.trans (hbb.mono hba.size)
        replace B0 := B0.below hBB B0.lt
        replace B1 := B1.below hBB B1.lt
        replace B2 := B2.below hBB B2.lt
        replace hb := hb.trans (hBB.mono hb.size)
        clear hBB hba hbb hps
        clear hc
        go_upto_region 5 with (first | (refine wpList_load_any rfl 23 (.tmp 5) rfl _ rfl 64 23 _ (B1) _ Try.underlying23 rfl Try.size23 ?_) | (go_at_call 121; refine (l01Monic_any m hm _).mono ?_; rintro e W3 ⟨rfl, hW3⟩; replace B0 := B0.below hW3 B0.lt; replace B1 := B1.below hW3 B1.lt; replace B2 := B2.below hW3 B2.lt; replace hb := (hb).trans (hW3.mono (hb).size); rw [hmo]) | (refine wpList_load_any_g rfl 23 (.tmp 5) rfl _ rfl 64 23 _ (B1) _ Try.underlying23 rfl Try.size23 ?_) | (go_at_call 73; refine (l01Deg_any m _).mono ?_; rintro e W4 ⟨rfl, hW4⟩; replace B0 := B0.below hW4 B0.lt; replace B1 := B1.below hW4 B1.lt; replace B2 := B2.below hW4 B2.lt; replace hb := (hb).trans (hW4.mono (hb).size)) | (go_at_call 74; refine (l01In_yes (deg m) 1 3 hyr _).mono ?_; rintro e wS ⟨rfl, rfl⟩))
        go_upto_region 7 with (first | (refine wpList_load_any rfl 23 (.tmp 5) rfl _ rfl 64 23 _ (B1) _ Try.underlying23 rfl Try.size23 ?_) | (go_at_call 83; refine (HI.out _).mono ?_; rintro e W5 ⟨rfl, hW5⟩; replace B0 := B0.below hW5 B0.lt; replace B1 := B1.below hW5 B1.lt; replace B2 := B2.below hW5 B2.lt; replace hb := (hb).trans (hW5.mono (hb).size)))
        clear HI
        have lt_B0 := B0.lt
        have lt_B1 := B1.lt
        have lt_B2 := B2.lt
        go_upto_region 8 with (first | rw [← zero64] | (refine wpList_load_any rfl 23 (.tmp 5) rfl _ rfl 64 23 _ (B1) _ Try.underlying23 rfl Try.size23 ?_) | (refine wpList_load_any rfl 23 (.tmp 5) rfl _ rfl 64 23 _ (B1) _ Try.underlying23 rfl Try.size23 ?_) | (go_at_call 76; refine (HTM.out _).mono ?_; rintro e W6 ⟨rfl, hW6⟩; replace B0 := B0.below hW6 B0.lt; replace B1 := B1.below hW6 B1.lt; replace B2 := B2.below hW6 B2.lt; replace hb := (hb).trans (hW6.mono (hb).size); rw [HTV.out]) | (refine wpList_store_blk rfl 23 (.tmp 8) (.tmp 43) rfl _ 64 (prd n m m) rfl rfl 23 _ ((Blk.new W6 64 23 (fun _ => 0))) Try.size23 ?_; try simp only [Act.put]; go_upto_region 8 with (fail)))
        have lt_B0 := B0.lt
        have lt_B1 := B1.lt
        have lt_B2 := B2.lt
        have lhb := hb.size
        have qB0 : Blk ((W6.alloc (.cells (bcells 64 fun _ => 0) 23)).setRow (W6.heap.size) (bcells 64 (prd n m m))) (w.heap.size) 64 23 (x) := ((B0.alloc (.cells (bcells 64 fun _ => 0) 23)).rowOther (by omega))
        have qB1 : Blk ((W6.alloc (.cells (bcells 64 fun _ => 0) 23)).setRow (W6.heap.size) (bcells 64 (prd n m m))) (w.heap.size + 1) 64 23 (m) := ((B1.alloc (.cells (bcells 64 fun _ => 0) 23)).rowOther (by omega))
        have qB2 : Blk ((W6.alloc (.cells (bcells 64 fun _ => 0) 23)).setRow (W6.heap.size) (bcells 64 (prd n m m))) (w.heap.size + 1 + 1) 64 23 (fun _ => 0) := ((B2.alloc (.cells (bcells 64 fun _ => 0) 23)).rowOther (by omega))
        have qB3 : Blk ((W6.alloc (.cells (bcells 64 fun _ => 0) 23)).setRow (W6.heap.size) (bcells 64 (prd n m m))) (W6.heap.size) 64 23 (prd n m m) := ((Blk.new W6 64 23 (fun _ => 0)).row (prd n m m))
        have qhb : Below w.heap.size w ((W6.alloc (.cells (bcells 64 fun _ => 0) 23)).setRow (W6.heap.size) (bcells 64 (prd n m m))) := (below_row (hb.alloc (by have := hb.size; simp; omega) (.cells (bcells 64 fun _ => 0) 23)) (by omega) _)
        obtain ⟨W7, hwo⟩ : ∃ v : World, v = ((W6.alloc (.cells (bcells 64 fun _ => 0) 23)).setRow (W6.heap.size) (bcells 64 (prd n m m))) := ⟨_, rfl⟩
        rw [← hwo] at qB0 qB1 qB2 qB3 qhb ⊢
        clear hwo
        clear B0 B1 B2 hb
        have B0 := qB0
        have B1 := qB1
        have B2 := qB2
        have B3 := qB3
        have hb := qhb
        clear qB0 qB1 qB2 qB3 qhb
        obtain ⟨N1, hNN⟩ : ∃ n : Nat, n = W6.heap.size := ⟨_, rfl⟩
        rw [← hNN] at lt_B0 lt_B1 lt_B2 lhb B3 ⊢
        clear hNN
        have zN1_0 := lt_B0
        have zN1_1 := lt_B1
        have zN1_2 := lt_B2
        have zN1 := lhb
        clear lt_B0 lt_B1 lt_B2 lhb
        try simp only [Act.put, List.setIfInBounds_toArray, List.set_cons_zero, List.set_cons_succ]
        have lt_B0 : (w.heap.size) < W7.heap.size := B0.lt
        have lt_B1 : (w.heap.size + 1) < W7.heap.size := B1.lt
        have lt_B2 : (w.heap.size + 1 + 1) < W7.heap.size := B2.lt
        have lt_B3 : (N1) < W7.heap.size := B3.lt
        have hbase : w.heap.size ≤ W7.heap.size := hb.size
        refine wp_region_steps0 Try.mixed (by kernel_rfl) (by kernel_rfl) (fun v => by (simp only [frL, Act.put, List.setIfInBounds_toArray, List.set_cons_zero, List.set_cons_succ, Nat.reduceAdd, Nat.zero_add]; exact rfl))
          (fun L v W8 => Below w.heap.size w W8 ∧ W7.heap.size ≤ W8.heap.size ∧ Blk W8 (w.heap.size) 64 23 (x) ∧ Blk W8 (w.heap.size + 1) 64 23 (m) ∧ Blk W8 (w.heap.size + 1 + 1) 64 23 (fun _ => 0) ∧ Blk W8 (N1) 64 23 (prd n m m) ∧ (L 0 = true → v 0 = (.int .i64 (n : Int))) ∧ (L 1 = true → v 1 = (.int .i64 (n : Int))) ∧ (L 2 = true → v 2 = (.agg (bcells 64 (m)))) ∧ (L 3 = true → v 3 = (.agg (bcells 64 (oneP)))) ∧ (L 4 = true → v 4 = (.agg (bcells 64 (lsP n m)))) ∧ (L 5 = true → v 5 = (.int .i64 (n : Int))) ∧ (L 6 = true → v 6 = (.agg (bcells 64 (x)))) ∧ (L 7 = true → v 7 = (.agg (bcells 64 (m)))) ∧ (L 8 = true → v 8 = (.agg (bcells 64 (resP n x m)))) ∧ (L 9 = true → v 9 = (.agg (bcells 64 (prd n m m)))) ∧ (L 10 = true → v 10 = (.agg (bcells 64 (drP n x m)))) ∧ (L 11 = true → AF (v 11) W8 W7.heap.size 64 23) ∧ (L 12 = true → PF (v 11) W8 W7.heap.size 64 23 (drP n x m))) ?_ ?_ ?_
        · intro v hv0
          exact ⟨hb.drew, Nat.le_refl _, B0.drew, B1.drew, B2.drew, B3.drew, (fun h => by cases h), (fun h => by cases h), (fun h => by cases h), (fun h => by cases h), (fun h => by cases h), (fun h => by cases h), (fun h => by cases h), (fun h => by cases h), (fun h => by cases h), (fun h => by cases h), (fun h => by cases h), (fun h => by cases h), (fun h => by cases h)⟩
        · refine (.cons rfl ?_ (.cons rfl ?_ (.cons rfl ?_ (.cons rfl ?_ (.cons rfl ?_ (.cons rfl ?_ (.cons rfl ?_ (.cons rfl ?_ (.cons rfl ?_ (.cons rfl ?_ (.cons rfl ?_ (.cons rfl ?_ (.cons rfl ?_ (.nil _))))))))))))))
          · intro L v W8 hd hn ⟨hB, hz, s0, s1, s2, s3, h0, h1, h2, h3, h4, h5, h6, h7, h8, h9, h10, h11, h12⟩ K hK
            go_wp2_with fail
            exact hK _ (.int .i64 (n : Int)) _ (by simp only [Act.put, List.setIfInBounds_toArray, List.set_cons_zero, List.set_cons_succ ]) ⟨hB, hz, s0, s1, s2, s3, (fun _ => rfl), h1, h2, h3, h4, h5, h6, h7, h8, h9, h10, h11, h12⟩
          · intro L v W8 hd hn ⟨hB, hz, s0, s1, s2, s3, h0, h1, h2, h3, h4, h5, h6, h7, h8, h9, h10, h11, h12⟩ K hK
            go_wp2_with fail
            exact hK _ (.int .i64 (n : Int)) _ (by simp only [Act.put, List.setIfInBounds_toArray, List.set_cons_zero, List.set_cons_succ ]) ⟨hB, hz, s0, s1, s2, s3, h0, (fun _ => rfl), h2, h3, h4, h5, h6, h7, h8, h9, h10, h11, h12⟩
          · intro L v W8 hd hn ⟨hB, hz, s0, s1, s2, s3, h0, h1, h2, h3, h4, h5, h6, h7, h8, h9, h10, h11, h12⟩ K hK
            refine wp_load_any 23 _ rfl _ rfl 64 23 _ s1 _ Try.underlying23 rfl Try.size23 ?_
            exact hK _ _ _ rfl ⟨hB, hz, s0, s1, s2, s3, h0, h1, (fun _ => rfl), h3, h4, h5, h6, h7, h8, h9, h10, h11, h12⟩
          · intro L v W8 hd hn ⟨hB, hz, s0, s1, s2, s3, h0, h1, h2, h3, h4, h5, h6, h7, h8, h9, h10, h11, h12⟩ K hK
            go_wp2_with (go_at_call 75; refine (l01One_any _).mono ?_; rintro e wy ⟨rfl, hy⟩)
            exact hK _ (.agg (bcells 64 (oneP))) _ (by simp only [Act.put, List.setIfInBounds_toArray, List.set_cons_zero, List.set_cons_succ ]) ⟨hB.trans (hy.mono hB.size), (Nat.le_trans hz hy.size), (s0).below hy (s0).lt, (s1).below hy (s1).lt, (s2).below hy (s2).lt, (s3).below hy (s3).lt, h0, h1, h2, (fun _ => rfl), h4, h5, h6, h7, h8, h9, h10, (fun h => (h11 h).below hy), (fun h => (h12 h).below hy)⟩
          · intro L v W8 hd hn ⟨hB, hz, s0, s1, s2, s3, h0, h1, h2, h3, h4, h5, h6, h7, h8, h9, h10, h11, h12⟩ K hK
            have e1 := h1 (hd ⟨1, .data⟩ (by simp) rfl)
            have e2 := h2 (hd ⟨2, .data⟩ (by simp) rfl)
            have e3 := h3 (hd ⟨3, .data⟩ (by simp) rfl)
            go_wp2_with (go_at_call 107; refine (HAD.out _).mono ?_; rintro e wy ⟨rfl, hy⟩)
            exact hK _ (.agg (bcells 64 (lsP n m))) _ (by simp only [Act.put, List.setIfInBounds_toArray, List.set_cons_zero, List.set_cons_succ, e1, e2, e3]) ⟨hB.trans (hy.mono hB.size), (Nat.le_trans hz hy.size), (s0).below hy (s0).lt, (s1).below hy (s1).lt, (s2).below hy (s2).lt, (s3).below hy (s3).lt, h0, h1, h2, h3, (fun _ => rfl), h5, h6, h7, h8, h9, h10, (fun h => (h11 h).below hy), (fun h => (h12 h).below hy)⟩
          · intro L v W8 hd hn ⟨hB, hz, s0, s1, s2, s3, h0, h1, h2, h3, h4, h5, h6, h7, h8, h9, h10, h11, h12⟩ K hK
            go_wp2_with fail
            exact hK _ (.int .i64 (n : Int)) _ (by simp only [Act.put, List.setIfInBounds_toArray, List.set_cons_zero, List.set_cons_succ ]) ⟨hB, hz, s0, s1, s2, s3, h0, h1, h2, h3, h4, (fun _ => rfl), h6, h7, h8, h9, h10, h11, h12⟩
          · intro L v W8 hd hn ⟨hB, hz, s0, s1, s2, s3, h0, h1, h2, h3, h4, h5, h6, h7, h8, h9, h10, h11, h12⟩ K hK
            refine wp_load_any 23 _ rfl _ rfl 64 23 _ s0 _ Try.underlying23 rfl Try.size23 ?_
            exact hK _ _ _ rfl ⟨hB, hz, s0, s1, s2, s3, h0, h1, h2, h3, h4, h5, (fun _ => rfl), h7, h8, h9, h10, h11, h12⟩
          · intro L v W8 hd hn ⟨hB, hz, s0, s1, s2, s3, h0, h1, h2, h3, h4, h5, h6, h7, h8, h9, h10, h11, h12⟩ K hK
            refine wp_load_any 23 _ rfl _ rfl 64 23 _ s1 _ Try.underlying23 rfl Try.size23 ?_
            exact hK _ _ _ rfl ⟨hB, hz, s0, s1, s2, s3, h0, h1, h2, h3, h4, h5, h6, (fun _ => rfl), h8, h9, h10, h11, h12⟩
          · intro L v W8 hd hn ⟨hB, hz, s0, s1, s2, s3, h0, h1, h2, h3, h4, h5, h6, h7, h8, h9, h10, h11, h12⟩ K hK
            have e5 := h5 (hd ⟨5, .data⟩ (by simp) rfl)
            have e6 := h6 (hd ⟨6, .data⟩ (by simp) rfl)
            have e7 := h7 (hd ⟨7, .data⟩ (by simp) rfl)
            go_wp2_with (go_at_call 115; refine (HMO.out _).mono ?_; rintro e wy ⟨rfl, hy⟩)
            exact hK _ (.agg (bcells 64 (resP n x m))) _ (by simp only [Act.put, List.setIfInBounds_toArray, List.set_cons_zero, List.set_cons_succ, e5, e6, e7]) ⟨hB.trans (hy.mono hB.size), (Nat.le_trans hz hy.size), (s0).below hy (s0).lt, (s1).below hy (s1).lt, (s2).below hy (s2).lt, (s3).below hy (s3).lt, h0, h1, h2, h3, h4, h5, h6, h7, (fun _ => rfl), h9, h10, (fun h => (h11 h).below hy), (fun h => (h12 h).below hy)⟩
          · intro L v W8 hd hn ⟨hB, hz, s0, s1, s2, s3, h0, h1, h2, h3, h4, h5, h6, h7, h8, h9, h10, h11, h12⟩ K hK
            refine wp_load_any 23 _ rfl _ rfl 64 23 _ s3 _ Try.underlying23 rfl Try.size23 ?_
            exact hK _ _ _ rfl ⟨hB, hz, s0, s1, s2, s3, h0, h1, h2, h3, h4, h5, h6, h7, h8, (fun _ => rfl), h10, h11, h12⟩
          · intro L v W8 hd hn ⟨hB, hz, s0, s1, s2, s3, h0, h1, h2, h3, h4, h5, h6, h7, h8, h9, h10, h11, h12⟩ K hK
            have e0 := h0 (hd ⟨0, .data⟩ (by simp) rfl)
            have e4 := h4 (hd ⟨4, .data⟩ (by simp) rfl)
            have e8 := h8 (hd ⟨8, .data⟩ (by simp) rfl)
            have e9 := h9 (hd ⟨9, .data⟩ (by simp) rfl)
            go_wp2_with (go_at_call 111; refine (HAC.out _).mono ?_; rintro e wy ⟨rfl, hy⟩)
            exact hK _ (.agg (bcells 64 (drP n x m))) _ (by simp only [Act.put, List.setIfInBounds_toArray, List.set_cons_zero, List.set_cons_succ, e0, e4, e8, e9]) ⟨hB.trans (hy.mono hB.size), (Nat.le_trans hz hy.size), (s0).below hy (s0).lt, (s1).below hy (s1).lt, (s2).below hy (s2).lt, (s3).below hy (s3).lt, h0, h1, h2, h3, h4, h5, h6, h7, h8, h9, (fun _ => rfl), (fun h => (h11 h).below hy), (fun h => (h12 h).below hy)⟩
          · intro L v W8 hd hn ⟨hB, hz, s0, s1, s2, s3, h0, h1, h2, h3, h4, h5, h6, h7, h8, h9, h10, h11, h12⟩ K hK
            go_wp2_with fail
            rw [← zero64]
            exact hK _ (.pointer (some ⟨W8.heap.size, 0, none⟩)) _ (by simp only [Act.put, List.setIfInBounds_toArray, List.set_cons_zero, List.set_cons_succ ]) ⟨hB.alloc hB.size _, (by simp; omega), (s0).alloc _, (s1).alloc _, (s2).alloc _, (s3).alloc _, h0, h1, h2, h3, h4, h5, h6, h7, h8, h9, h10, (fun _ => (PF.new W8 64 23 _ hz).af), (fun h => absurd rfl (hn 12 _ rfl h ⟨11, .data⟩ (by simp) rfl))⟩
          · intro L v W8 hd hn ⟨hB, hz, s0, s1, s2, s3, h0, h1, h2, h3, h4, h5, h6, h7, h8, h9, h10, h11, h12⟩ K hK
            have e10 := h10 (hd ⟨10, .data⟩ (by simp) rfl)
            obtain ⟨gz, b, ea, hN, hk⟩ := (h11 (hd ⟨11, .data⟩ (by simp) rfl)).out
            refine wp_store_blk 23 _ _ rfl b 64 (drP n x m) ea e10 23 gz hk Try.size23 ?_
            exact hK _ undef _ rfl ⟨below_row hB (Nat.le_trans hbase hN) _, (by simpa [World.setRow] using hz), (s0).rowOther (by omega), (s1).rowOther (by omega), (s2).rowOther (by omega), (s3).rowOther (by omega), h0, h1, h2, h3, h4, h5, h6, h7, h8, h9, h10, (fun h => (h11 h).row hk), (fun _ => by rw [show updV v 12 undef 11 = v 11 from rfl, ea]; exact PF.row hk hN _)⟩
        · intro L v W8 hL ⟨hB, hz, s0, s1, s2, s3, h0, h1, h2, h3, h4, h5, h6, h7, h8, h9, h10, h11, h12⟩
          have e0 := h0 (hL 0 (by decide))
          have e1 := h1 (hL 1 (by decide))
          have e2 := h2 (hL 2 (by decide))
          have e3 := h3 (hL 3 (by decide))
          have e4 := h4 (hL 4 (by decide))
          have e5 := h5 (hL 5 (by decide))
          have e6 := h6 (hL 6 (by decide))
          have e7 := h7 (hL 7 (by decide))
          have e8 := h8 (hL 8 (by decide))
          have e9 := h9 (hL 9 (by decide))
          have e10 := h10 (hL 10 (by decide))
          obtain ⟨k8_11, e11, hNk8_11, hk8_11⟩ := (h12 (hL 12 (by decide))).out
          clear hL h0 h1 h2 h3 h4 h5 h6 h7 h8 h9 h10 h11 h12
          simp only [Exit.then, e0, e1, e2, e3, e4, e5, e6, e7, e8, e9, e10, e11]
          clear e0 e1 e2 e3 e4 e5 e6 e7 e8 e9 e10 e11
          clear B0
          have B0 := s0
          clear s0
          clear B1
          have B1 := s1
          clear s1
          clear B2
          have B2 := s2
          clear s2
          clear B3
          have B3 := s3
          clear s3
          clear hb
          have hb := hB
          clear hB
          have B4 := hk8_11
          clear hk8_11
          have zk8_11_0 : w.heap.size < k8_11 := by omega
          have zk8_11_1 : w.heap.size + 1 < k8_11 := by omega
          have zk8_11_2 : w.heap.size + 1 + 1 < k8_11 := by omega
          have zk8_11_3 : N1 < k8_11 := by omega
          clear hbase hz lt_B0 lt_B1 lt_B2 lt_B3
          go_upto_region 9 with (fail)
          have lt_B0 := B0.lt
          have lt_B1 := B1.lt
          have lt_B2 := B2.lt
          have lt_B3 := B3.lt
          have lt_B4 := B4.lt
          go_upto_region 10 with (first | rw [← zero64] | (refine wpList_load_any rfl 23 (.tmp 10) rfl _ rfl 64 23 _ (B4) _ Try.underlying23 rfl Try.size23 ?_) | (refine wpList_load_any rfl 23 (.tmp 5) rfl _ rfl 64 23 _ (B1) _ Try.underlying23 rfl Try.size23 ?_) | (go_at_call 122; refine (HQR.out _).mono ?_; rintro e W9 ⟨rfl, hW9⟩; replace B0 := B0.below hW9 B0.lt; replace B1 := B1.below hW9 B1.lt; replace B2 := B2.below hW9 B2.lt; replace B3 := B3.below hW9 B3.lt; replace B4 := B4.below hW9 B4.lt; replace hb := (hb).trans (hW9.mono (hb).size)) | (refine wpList_store_blk rfl 23 (.tmp 11) (.tmp 61) rfl _ 64 (quoP n (drP n x m) m) rfl rfl 23 _ (((Blk.new W9 64 23 (fun _ => 0)).alloc (.cells (bcells 64 fun _ => 0) 23))) Try.size23 ?_; try simp only [Act.put]) | (refine wpList_store_blk rfl 23 (.tmp 12) (.tmp 62) rfl _ 64 (resP n (drP n x m) m) rfl rfl 23 _ (((show Blk ((W9.alloc (.cells (bcells 64 fun _ => 0) 23)).alloc (.cells (bcells 64 fun _ => 0) 23)) (W9.heap.size + 1) 64 23 (fun _ => 0) by have := Blk.new (W9.alloc (.cells (bcells 64 fun _ => 0) 23)) 64 23 (fun _ => 0); simpa using this).rowOther (by omega))) Try.size23 ?_; try simp only [Act.put]))
          have lt_B0 := B0.lt
          have lt_B1 := B1.lt
          have lt_B2 := B2.lt
          have lt_B3 := B3.lt
          have lt_B4 := B4.lt
          have lhb := hb.size
          have qB0 : Blk ((((W9.alloc (.cells (bcells 64 fun _ => 0) 23)).alloc (.cells (bcells 64 fun _ => 0) 23)).setRow (W9.heap.size) (bcells 64 (quoP n (drP n x m) m))).setRow (W9.heap.size + 1) (bcells 64 (resP n (drP n x m) m))) (w.heap.size) 64 23 (x) := ((((B0.alloc (.cells (bcells 64 fun _ => 0) 23)).alloc (.cells (bcells 64 fun _ => 0) 23)).rowOther (by omega)).rowOther (by omega))
          have qB1 : Blk ((((W9.alloc (.cells (bcells 64 fun _ => 0) 23)).alloc (.cells (bcells 64 fun _ => 0) 23)).setRow (W9.heap.size) (bcells 64 (quoP n (drP n x m) m))).setRow (W9.heap.size + 1) (bcells 64 (resP n (drP n x m) m))) (w.heap.size + 1) 64 23 (m) := ((((B1.alloc (.cells (bcells 64 fun _ => 0) 23)).alloc (.cells (bcells 64 fun _ => 0) 23)).rowOther (by omega)).rowOther (by omega))
          have qB2 : Blk ((((W9.alloc (.cells (bcells 64 fun _ => 0) 23)).alloc (.cells (bcells 64 fun _ => 0) 23)).setRow (W9.heap.size) (bcells 64 (quoP n (drP n x m) m))).setRow (W9.heap.size + 1) (bcells 64 (resP n (drP n x m) m))) (w.heap.size + 1 + 1) 64 23 (fun _ => 0) := ((((B2.alloc (.cells (bcells 64 fun _ => 0) 23)).alloc (.cells (bcells 64 fun _ => 0) 23)).rowOther (by omega)).rowOther (by omega))
          have qB3 : Blk ((((W9.alloc (.cells (bcells 64 fun _ => 0) 23)).alloc (.cells (bcells 64 fun _ => 0) 23)).setRow (W9.heap.size) (bcells 64 (quoP n (drP n x m) m))).setRow (W9.heap.size + 1) (bcells 64 (resP n (drP n x m) m))) (N1) 64 23 (prd n m m) := ((((B3.alloc (.cells (bcells 64 fun _ => 0) 23)).alloc (.cells (bcells 64 fun _ => 0) 23)).rowOther (by omega)).rowOther (by omega))
          have qB4 : Blk ((((W9.alloc (.cells (bcells 64 fun _ => 0) 23)).alloc (.cells (bcells 64 fun _ => 0) 23)).setRow (W9.heap.size) (bcells 64 (quoP n (drP n x m) m))).setRow (W9.heap.size + 1) (bcells 64 (resP n (drP n x m) m))) (k8_11) 64 23 (drP n x m) := ((((B4.alloc (.cells (bcells 64 fun _ => 0) 23)).alloc (.cells (bcells 64 fun _ => 0) 23)).rowOther (by omega)).rowOther (by omega))
          have qB5 : Blk ((((W9.alloc (.cells (bcells 64 fun _ => 0) 23)).alloc (.cells (bcells 64 fun _ => 0) 23)).setRow (W9.heap.size) (bcells 64 (quoP n (drP n x m) m))).setRow (W9.heap.size + 1) (bcells 64 (resP n (drP n x m) m))) (W9.heap.size) 64 23 (quoP n (drP n x m) m) := ((((Blk.new W9 64 23 (fun _ => 0)).alloc (.cells (bcells 64 fun _ => 0) 23)).row (quoP n (drP n x m) m)).rowOther (by omega))
          have qB6 : Blk ((((W9.alloc (.cells (bcells 64 fun _ => 0) 23)).alloc (.cells (bcells 64 fun _ => 0) 23)).setRow (W9.heap.size) (bcells 64 (quoP n (drP n x m) m))).setRow (W9.heap.size + 1) (bcells 64 (resP n (drP n x m) m))) (W9.heap.size + 1) 64 23 (resP n (drP n x m) m) := (((show Blk ((W9.alloc (.cells (bcells 64 fun _ => 0) 23)).alloc (.cells (bcells 64 fun _ => 0) 23)) (W9.heap.size + 1) 64 23 (fun _ => 0) by have := Blk.new (W9.alloc (.cells (bcells 64 fun _ => 0) 23)) 64 23 (fun _ => 0); simpa using this).rowOther (by omega)).row (resP n (drP n x m) m))
          have qhb : Below w.heap.size w ((((W9.alloc (.cells (bcells 64 fun _ => 0) 23)).alloc (.cells (bcells 64 fun _ => 0) 23)).setRow (W9.heap.size) (bcells 64 (quoP n (drP n x m) m))).setRow (W9.heap.size + 1) (bcells 64 (resP n (drP n x m) m))) := (below_row (below_row ((hb.alloc (by have := hb.size; simp; omega) (.cells (bcells 64 fun _ => 0) 23)).alloc (by have := hb.size; simp; omega) (.cells (bcells 64 fun _ => 0) 23)) (by omega) _) (by omega) _)
          obtain ⟨W10, hwo⟩ : ∃ v : World, v = ((((W9.alloc (.cells (bcells 64 fun _ => 0) 23)).alloc (.cells (bcells 64 fun _ => 0) 23)).setRow (W9.heap.size) (bcells 64 (quoP n (drP n x m) m))).setRow (W9.heap.size + 1) (bcells 64 (resP n (drP n x m) m))) := ⟨_, rfl⟩
          rw [← hwo] at qB0 qB1 qB2 qB3 qB4 qB5 qB6 qhb ⊢
          clear hwo
          clear B0 B1 B2 B3 B4 hb
          have B0 := qB0
          have B1 := qB1
          have B2 := qB2
          have B3 := qB3
          have B4 := qB4
          have B5 := qB5
          have B6 := qB6
          have hb := qhb
          clear qB0 qB1 qB2 qB3 qB4 qB5 qB6 qhb
          obtain ⟨N2, hNN⟩ : ∃ n : Nat, n = W9.heap.size := ⟨_, rfl⟩
          rw [← hNN] at lt_B0 lt_B1 lt_B2 lt_B3 lt_B4 lhb B5 B6 ⊢
          clear hNN
          have zN2_0 := lt_B0
          have zN2_1 := lt_B1
          have zN2_2 := lt_B2
          have zN2_3 := lt_B3
          have zN2_4 := lt_B4
          have zN2 := lhb
          clear lt_B0 lt_B1 lt_B2 lt_B3 lt_B4 lhb
          try simp only [Act.put, List.setIfInBounds_toArray, List.set_cons_zero, List.set_cons_succ]
          have lt_B0 := B0.lt
          have lt_B1 := B1.lt
          have lt_B2 := B2.lt
          have lt_B3 := B3.lt
          have lt_B4 := B4.lt
          have lt_B5 := B5.lt
          have lt_B6 := B6.lt
          go_wp2_with (first | rw [← zero64] | (refine wpList_load_any rfl 23 (.tmp 11) rfl _ rfl 64 23 _ (B5) _ Try.underlying23 rfl Try.size23 ?_) | (refine wpList_load_any rfl 23 (.tmp 5) rfl _ rfl 64 23 _ (B1) _ Try.underlying23 rfl Try.size23 ?_) | (go_at_call 115; refine (HMQ.out _).mono ?_; rintro e W11 ⟨rfl, hW11⟩; replace B0 := B0.below hW11 B0.lt; replace B1 := B1.below hW11 B1.lt; replace B2 := B2.below hW11 B2.lt; replace B3 := B3.below hW11 B3.lt; replace B4 := B4.below hW11 B4.lt; replace B5 := B5.below hW11 B5.lt; replace B6 := B6.below hW11 B6.lt; replace hb := (hb).trans (hW11.mono (hb).size)) | (refine wpList_store_blk rfl 23 (.tmp 6) (.tmp 66) rfl _ 64 (quoP n (drP n x m) m) rfl rfl 23 _ (B2) Try.size23 ?_; try simp only [Act.put]; go_wp2_with fail))
          have qB0 : Blk (W11.setRow (w.heap.size + 1 + 1) (bcells 64 (quoP n (drP n x m) m))) (w.heap.size) 64 23 (x) := (B0.rowOther (by omega))
          have qB1 : Blk (W11.setRow (w.heap.size + 1 + 1) (bcells 64 (quoP n (drP n x m) m))) (w.heap.size + 1) 64 23 (m) := (B1.rowOther (by omega))
          have qB2 : Blk (W11.setRow (w.heap.size + 1 + 1) (bcells 64 (quoP n (drP n x m) m))) (w.heap.size + 1 + 1) 64 23 (quoP n (drP n x m) m) := (B2.row (quoP n (drP n x m) m))
          have qB3 : Blk (W11.setRow (w.heap.size + 1 + 1) (bcells 64 (quoP n (drP n x m) m))) (N1) 64 23 (prd n m m) := (B3.rowOther (by omega))
          have qB4 : Blk (W11.setRow (w.heap.size + 1 + 1) (bcells 64 (quoP n (drP n x m) m))) (k8_11) 64 23 (drP n x m) := (B4.rowOther (by omega))
          have qB5 : Blk (W11.setRow (w.heap.size + 1 + 1) (bcells 64 (quoP n (drP n x m) m))) (N2) 64 23 (quoP n (drP n x m) m) := (B5.rowOther (by omega))
          have qB6 : Blk (W11.setRow (w.heap.size + 1 + 1) (bcells 64 (quoP n (drP n x m) m))) (N2 + 1) 64 23 (resP n (drP n x m) m) := (B6.rowOther (by omega))
          have qhb : Below w.heap.size w (W11.setRow (w.heap.size + 1 + 1) (bcells 64 (quoP n (drP n x m) m))) := (below_row hb (by omega) _)
          obtain ⟨W12, hwo⟩ : ∃ v : World, v = (W11.setRow (w.heap.size + 1 + 1) (bcells 64 (quoP n (drP n x m) m))) := ⟨_, rfl⟩
          rw [← hwo] at qB0 qB1 qB2 qB3 qB4 qB5 qB6 qhb ⊢
          clear hwo
          clear B0 B1 B2 B3 B4 B5 B6 hb
          have B0 := qB0
          have B1 := qB1
          have B2 := qB2
          have B3 := qB3
          have B4 := qB4
          have B5 := qB5
          have B6 := qB6
          have hb := qhb
          clear qB0 qB1 qB2 qB3 qB4 qB5 qB6 qhb
          try simp only [Act.put, List.setIfInBounds_toArray, List.set_cons_zero, List.set_cons_succ]
          refine bodyPost_ret (results_bt rfl _ _ _ 64 23 5 _ rfl B2 Try.underlying23 Try.size23) rfl ⟨by first | (rw [HE.out, HV2.out]; rfl) | rw [HE.out, HV2.out], hb⟩
  · have HV := Lib.hid (drV_1 hc)
    go_upto_region 2 with (first | (refine wpList_load_any rfl 23 (.tmp 4) rfl _ rfl 64 23 _ B0 _ Try.underlying23 rfl Try.size23 ?_) | (refine wpList_load_any rfl 23 (.tmp 5) rfl _ rfl 64 23 _ B1 _ Try.underlying23 rfl Try.size23 ?_) | (refine wpList_build_polys rfl 47 _ [x, m] rfl 23 rfl Try.underlying47 Try.elem23 (by simp) (by simp) rfl ?_; intro wa hwa hps hba; clear hwa) | (go_at_call 72; refine (l01Code_any p [x, m] (by simp [hx, hm]) _ _ hps (by simp)).mono ?_; rintro e W2 ⟨rfl, hbb⟩; rw [hc]))
    have hBB : Below W1.heap.size W1 W2 := hba.trans (hbb.mono hba.size)
    replace B0 := B0.below hBB B0.lt
    replace B1 := B1.below hBB B1.lt
    replace B2 := B2.below hBB B2.lt
    replace hb := hb.trans (hBB.mono hb.size)
    clear hBB hba hbb hps
    clear hc
    have lt_B0 := B0.lt
    have lt_B1 := B1.lt
    have lt_B2 := B2.lt
    go_wp2_with (first | rw [← zero64] | (refine wpList_store_blk rfl 23 (.tmp 6) (.tmp 20) rfl _ 64 (fun _ => 0) rfl rfl 23 _ (B2) Try.size23 ?_; try simp only [Act.put]; go_wp2_with fail))
    have qB0 : Blk (W2.setRow (w.heap.size + 1 + 1) (bcells 64 (fun _ => 0))) (w.heap.size) 64 23 (x) := (B0.rowOther (by omega))
    have qB1 : Blk (W2.setRow (w.heap.size + 1 + 1) (bcells 64 (fun _ => 0))) (w.heap.size + 1) 64 23 (m) := (B1.rowOther (by omega))
    have qB2 : Blk (W2.setRow (w.heap.size + 1 + 1) (bcells 64 (fun _ => 0))) (w.heap.size + 1 + 1) 64 23 (fun _ => 0) := (B2.row (fun _ => 0))
    have qhb : Below w.heap.size w (W2.setRow (w.heap.size + 1 + 1) (bcells 64 (fun _ => 0))) := (below_row hb (by omega) _)
    obtain ⟨W3, hwo⟩ : ∃ v : World, v = (W2.setRow (w.heap.size + 1 + 1) (bcells 64 (fun _ => 0))) := ⟨_, rfl⟩
    rw [← hwo] at qB0 qB1 qB2 qhb ⊢
    clear hwo
    clear B0 B1 B2 hb
    have B0 := qB0
    have B1 := qB1
    have B2 := qB2
    have hb := qhb
    clear qB0 qB1 qB2 qhb
    try simp only [Act.put, List.setIfInBounds_toArray, List.set_cons_zero, List.set_cons_succ]
    refine bodyPost_ret (results_bt rfl _ _ _ 64 23 5 _ rfl B2 Try.underlying23 Try.size23) rfl ⟨by first | (rw [HV.out]; rfl) | rw [HV.out], hb⟩
set_option maxRecDepth 100000 in
set_option maxHeartbeats 3200000 in
theorem impl_DeepRest_any (p : Int) (x m : Nat → Nat) (hx : byte x) (hm : byte m) (w : World) :
    Calls Try.prog 57 #[.int .i64 p, .agg (bcells 64 x), .agg (bcells 64 m)] w fun e w' => e = .returned (.tuple #[.agg (bcells 64 (drV p x m).1), .int .i64 (drV p x m).2]) ∧ Below w.heap.size w w' := by
  go_enter Try.func57, Try.ntmps57
  go_upto_region 1 with (fail)
  rw [← zero64]
  obtain ⟨W1, hwo⟩ : ∃ v : World, v = (((w.alloc (.cells (bcells 64 (x)) 23)).alloc (.cells (bcells 64 (m)) 23)).alloc (.cells (bcells 64 fun _ => 0) 23)) := ⟨_, rfl⟩
  have B0 : Blk W1 (w.heap.size) 64 23 (x) := by subst hwo; have := (((Blk.new w 64 23 (x)).alloc (.cells (bcells 64 (m)) 23)).alloc (.cells (bcells 64 fun _ => 0) 23)); simpa using this
  have B1 : Blk W1 (w.heap.size + 1) 64 23 (m) := by subst hwo; have := ((Blk.new (w.alloc (.cells (bcells 64 (x)) 23)) 64 23 (m)).alloc (.cells (bcells 64 fun _ => 0) 23)); simpa using this
  have B2 : Blk W1 (w.heap.size + 1 + 1) 64 23 (fun _ => 0) := by subst hwo; have := (Blk.new ((w.alloc (.cells (bcells 64 (x)) 23)).alloc (.cells (bcells 64 (m)) 23)) 64 23 (fun _ => 0)); simpa using this
  have hb : Below w.heap.size w W1 := by subst hwo; exact ((((Below.refl _ _).alloc (Nat.le_refl _) _).alloc (by simp) _).alloc (by simp; omega) _)
  rw [← hwo]
  clear hwo
  go_upto_region 2 with (first | (refine wpList_load_any rfl 23 (.tmp 4) rfl _ rfl 64 23 _ B0 _ Try.underlying23 rfl Try.size23 ?_) | (refine wpList_load_any rfl 23 (.tmp 5) rfl _ rfl 64 23 _ B1 _ Try.underlying23 rfl Try.size23 ?_) | (refine wpList_build_polys rfl 47 _ [x, m] rfl 23 rfl Try.underlying47 Try.elem23 (by simp) (by simp) rfl ?_; intro wa hwa hps hba; clear hwa) | (go_at_call 77; refine (checkPolys_any p [x, m] (by simp [hx, hm]) _ _ hps (by simp)).mono ?_; rintro e W2 ⟨rfl, hbb⟩))
  have hBB : Below W1.heap.size W1 W2 := hba.trans (hbb.mono hba.size)
  replace B0 := B0.below hBB B0.lt
  replace B1 := B1.below hBB B1.lt
  replace B2 := B2.below hBB B2.lt
  replace hb := hb.trans (hBB.mono hb.size)
  clear hBB hba hbb hps
  rcases codeL_two p [x, m] with hc | hc
  · obtain ⟨n, hn, n2, n7⟩ := okP_nat (codeL_zero hc).1
    subst hn
    have lx := lt_of_code hc (f := x) (by simp)
    have lm := lt_of_code hc (f := m) (by simp)
    have hpr := prime_of hc
    cases hm3 : monUp 3 m with
    | false =>
      have HV := Lib.hid (drV_2 hc hm3)
      rw [hc]
      clear hc
      go_upto_region 4 with (fail)
      go_upto_region 5 with (first | (refine wpList_load_any rfl 23 (.tmp 5) rfl _ rfl 64 23 _ (B1) _ Try.underlying23 rfl Try.size23 ?_) | (go_at_call 123; refine (isMonicUpTo_any 3 m hm _ (by decide) (by decide)).mono ?_; rintro e W3 ⟨rfl, hW3⟩; replace B0 := B0.below hW3 B0.lt; replace B1 := B1.below hW3 B1.lt; replace B2 := B2.below hW3 B2.lt; replace hb := (hb).trans (hW3.mono (hb).size); rw [hm3]))
      have lt_B0 := B0.lt
      have lt_B1 := B1.lt
      have lt_B2 := B2.lt
      go_wp2_with (first | rw [← zero64] | (refine wpList_store_blk rfl 23 (.tmp 6) (.tmp 25) rfl _ 64 (fun _ => 0) rfl rfl 23 _ (B2) Try.size23 ?_; try simp only [Act.put]; go_wp2_with fail))
      have qB0 : Blk (W3.setRow (w.heap.size + 1 + 1) (bcells 64 (fun _ => 0))) (w.heap.size) 64 23 (x) := (B0.rowOther (by omega))
      have qB1 : Blk (W3.setRow (w.heap.size + 1 + 1) (bcells 64 (fun _ => 0))) (w.heap.size + 1) 64 23 (m) := (B1.rowOther (by omega))
      have qB2 : Blk (W3.setRow (w.heap.size + 1 + 1) (bcells 64 (fun _ => 0))) (w.heap.size + 1 + 1) 64 23 (fun _ => 0) := (B2.row (fun _ => 0))
      have qhb : Below w.heap.size w (W3.setRow (w.heap.size + 1 + 1) (bcells 64 (fun _ => 0))) := (below_row hb (by omega) _)
      obtain ⟨W4, hwo⟩ : ∃ v : World, v = (W3.setRow (w.heap.size + 1 + 1) (bcells 64 (fun _ => 0))) := ⟨_, rfl⟩
      rw [← hwo] at qB0 qB1 qB2 qhb ⊢
      clear hwo
      clear B0 B1 B2 hb
      have B0 := qB0
      have B1 := qB1
      have B2 := qB2
      have hb := qhb
      clear qB0 qB1 qB2 qhb
      try simp only [Act.put, List.setIfInBounds_toArray, List.set_cons_zero, List.set_cons_succ]
      refine bodyPost_ret (results_bt rfl _ _ _ 64 23 5 _ rfl B2 Try.underlying23 Try.size23) rfl ⟨by first | (rw [HV.out]; rfl) | rw [HV.out], hb⟩
    | true =>
      obtain ⟨d, hmon, hd1, hd5⟩ := mon_up hm3
      have h0 : 0 ≤ deg m := by rw [hmon.1]; omega
      have h12 : deg m ≤ 12 := by rw [hmon.1]; omega
      have hmo : monB m = true := by
        have h5 := hm3
        rw [monUp_B] at h5
        simp only [Bool.and_eq_true, decide_eq_true_eq] at h5
        exact h5.1
      have hyr : 1 ≤ deg m ∧ deg m ≤ 3 := by rw [hmon.1]; omega
      cases hu : irB n m with
      | false =>
        have HV := Lib.hid (drV_5 hc hm3 hu)
        have HI := Lib.hid (show ∀ W, Calls Try.prog 88 #[.int .i64 (n : Int), .agg (bcells 64 m)] W fun e w' => e = .returned (.bool false) ∧ Below W.heap.size W w' from fun W => by
          have h := isIrreducible_any n m W hpr lm
          rw [irV_B h12, hmo, hu] at h
          exact h)
        rw [hc]
        clear hc
        go_upto_region 4 with (fail)
        go_upto_region 6 with (first | (refine wpList_load_any rfl 23 (.tmp 5) rfl _ rfl 64 23 _ (B1) _ Try.underlying23 rfl Try.size23 ?_) | (go_at_call 123; refine (isMonicUpTo_any 3 m hm _ (by decide) (by decide)).mono ?_; rintro e W3 ⟨rfl, hW3⟩; replace B0 := B0.below hW3 B0.lt; replace B1 := B1.below hW3 B1.lt; replace B2 := B2.below hW3 B2.lt; replace hb := (hb).trans (hW3.mono (hb).size); rw [hm3]))
        go_upto_region 7 with (first | (refine wpList_load_any rfl 23 (.tmp 5) rfl _ rfl 64 23 _ (B1) _ Try.underlying23 rfl Try.size23 ?_) | (go_at_call 88; refine (HI.out _).mono ?_; rintro e W4 ⟨rfl, hW4⟩; replace B0 := B0.below hW4 B0.lt; replace B1 := B1.below hW4 B1.lt; replace B2 := B2.below hW4 B2.lt; replace hb := (hb).trans (hW4.mono (hb).size)))
        have lt_B0 := B0.lt
        have lt_B1 := B1.lt
        have lt_B2 := B2.lt
        go_wp2_with (first | rw [← zero64] | (refine wpList_store_blk rfl 23 (.tmp 6) (.tmp 30) rfl _ 64 (fun _ => 0) rfl rfl 23 _ (B2) Try.size23 ?_; try simp only [Act.put]; go_wp2_with fail))
        have qB0 : Blk (W4.setRow (w.heap.size + 1 + 1) (bcells 64 (fun _ => 0))) (w.heap.size) 64 23 (x) := (B0.rowOther (by omega))
        have qB1 : Blk (W4.setRow (w.heap.size + 1 + 1) (bcells 64 (fun _ => 0))) (w.heap.size + 1) 64 23 (m) := (B1.rowOther (by omega))
        have qB2 : Blk (W4.setRow (w.heap.size + 1 + 1) (bcells 64 (fun _ => 0))) (w.heap.size + 1 + 1) 64 23 (fun _ => 0) := (B2.row (fun _ => 0))
        have qhb : Below w.heap.size w (W4.setRow (w.heap.size + 1 + 1) (bcells 64 (fun _ => 0))) := (below_row hb (by omega) _)
        obtain ⟨W5, hwo⟩ : ∃ v : World, v = (W4.setRow (w.heap.size + 1 + 1) (bcells 64 (fun _ => 0))) := ⟨_, rfl⟩
        rw [← hwo] at qB0 qB1 qB2 qhb ⊢
        clear hwo
        clear B0 B1 B2 hb
        have B0 := qB0
        have B1 := qB1
        have B2 := qB2
        have hb := qhb
        clear qB0 qB1 qB2 qhb
        try simp only [Act.put, List.setIfInBounds_toArray, List.set_cons_zero, List.set_cons_succ]
        refine bodyPost_ret (results_bt rfl _ _ _ 64 23 5 _ rfl B2 Try.underlying23 Try.size23) rfl ⟨by first | (rw [HV.out]; rfl) | rw [HV.out], hb⟩
      | true =>
        have HV := Lib.hid (drV_0 hc hm3 hu)
        have HI := Lib.hid (show ∀ W, Calls Try.prog 88 #[.int .i64 (n : Int), .agg (bcells 64 m)] W fun e w' => e = .returned (.bool true) ∧ Below W.heap.size W w' from fun W => by
          have h := isIrreducible_any n m W hpr lm
          rw [irV_B h12, hmo, hu] at h
          exact h)
        have hd3 : d ≤ 3 := by omega
        have hsq := deg_sqr hpr hmon (by omega)
        have ls : ∀ k, k < 64 → prd n m m k < n := fun k _ => prd_lt (by omega) k
        have hs0 : 0 ≤ deg (prd n m m) := by rw [hsq]; omega
        have hs9 : deg (prd n m m) ≤ 9 := by rw [hsq]; omega
        have lr := resP_lt (p := n) (b := m) (by omega) lx
        have hxs : deg (resP n x m) < deg (prd n m m) := by
          have := (resP_deg hpr lx lm h0).1
          rw [hmon.1] at this; rw [hsq]; omega
        have l1 : ∀ k, k < 64 → oneP k < n := fun k _ => by unfold oneP; split <;> omega
        have lls : ∀ k, k < 64 → lsP n m k < n := fun k _ => by unfold lsP; exact addK_lt (by omega) k
        obtain ⟨ldr, _⟩ := dr_ok hpr lx lm hmon hd1 hd3
        have HV2 := Lib.hid (show (drV (n : Int) x m).2 = 0 by rw [HV.out])
        have HE := Lib.hid (show bcells 64 (drV (n : Int) x m).1 = bcells 64 (quoP n (drP n x m) m) by rw [HV.out])
        
        have HPR := Lib.hid (fun W => product_any n m m W n2 n7 lm lm)
        have HDI := Lib.hid (show ∀ W, Calls Try.prog 124 #[.int .i64 (n : Int), .agg (bcells 64 m), .agg (bcells 64 oneP)] W fun e w' => e = .returned (.agg (bcells 64 (lsP n m))) ∧ Below W.heap.size W w' from fun W => by
          have e : bcells 64 (lsP n m) = bcells 64 (fun i => (m i + n - oneP i) % n) := bcells_congr (fun i hi => by unfold lsP; exact addK_neg (by omega) l1 hi)
          rw [e]; exact difference_any n m oneP W n2 n7 lm l1)
        have HRO := Lib.hid (fun W => restOf_any n x m W hpr lx lm h0)
        have HAC := Lib.hid (show ∀ W, Calls Try.prog 112 #[.agg (caC n (prd n m m)).toArray, .agg (bcells 64 (lsP n m)), .agg (bcells 64 (resP n x m))] W fun e w' => e = .returned (.agg (bcells 64 (drP n x m))) ∧ Below W.heap.size W w' from fun W => by
          have h := act_any n (lsP n m) (resP n x m) (prd n m m) W lls hpr lr ls hs0 hs9 hxs
          unfold drP; exact h)
        have HQR := Lib.hid (fun W => quotientAndRest_any n (drP n x m) m W hpr (fun k _ => ldr k) lm h0)
        clear hu hmon hsq ldr hxs hs0 hs9 h12 hyr hmo
        rw [hc]
        clear hc
        go_upto_region 4 with (fail)
        go_upto_region 6 with (first | (refine wpList_load_any rfl 23 (.tmp 5) rfl _ rfl 64 23 _ (B1) _ Try.underlying23 rfl Try.size23 ?_) | (go_at_call 123; refine (isMonicUpTo_any 3 m hm _ (by decide) (by decide)).mono ?_; rintro e W3 ⟨rfl, hW3⟩; replace B0 := B0.below hW3 B0.lt; replace B1 := B1.below hW3 B1.lt; replace B2 := B2.below hW3 B2.lt; replace hb := (hb).trans (hW3.mono (hb).size); rw [hm3]))
        go_upto_region 8 with (first | (refine wpList_load_any rfl 23 (.tmp 5) rfl _ rfl 64 23 _ (B1) _ Try.underlying23 rfl Try.size23 ?_) | (go_at_call 88; refine (HI.out _).mono ?_; rintro e W4 ⟨rfl, hW4⟩; replace B0 := B0.below hW4 B0.lt; replace B1 := B1.below hW4 B1.lt; replace B2 := B2.below hW4 B2.lt; replace hb := (hb).trans (hW4.mono (hb).size)))
        clear HI
        have lt_B0 := B0.lt
        have lt_B1 := B1.lt
        have lt_B2 := B2.lt
        go_upto_region 9 with (first | rw [← zero64] | rw [← caC_zero] | (refine wpList_load_any rfl 23 (.tmp 5) rfl _ rfl 64 23 _ (B1) _ Try.underlying23 rfl Try.size23 ?_) | (refine wpList_load_any rfl 23 (.tmp 5) rfl _ rfl 64 23 _ (B1) _ Try.underlying23 rfl Try.size23 ?_) | (go_at_call 80; refine (HPR.out _).mono ?_; rintro e W5 ⟨rfl, hW5⟩; replace B0 := B0.below hW5 B0.lt; replace B1 := B1.below hW5 B1.lt; replace B2 := B2.below hW5 B2.lt; replace hb := (hb).trans (hW5.mono (hb).size)) | (refine wpList_build_of rfl 95 _ rfl (caC n (prd n m m)).toArray (by rw [Array.toList_map]; exact built_ca n (prd n m m)) ?_) | (refine wpList_store_rowv rfl 95 (.tmp 9) (.tmp 36) rfl _ rfl (caC n (prd n m m)).toArray rfl 95 _ ((Row.new W5 95 (caC 0 (fun _ => 0)).toArray)) 65 Try.size95 (by simp [caC_len]) (by simp [caC_len]) (caC_all _ _) ?_; try simp only [Act.put]))
        have lt_B0 := B0.lt
        have lt_B1 := B1.lt
        have lt_B2 := B2.lt
        have lhb := hb.size
        have qB0 : Blk ((W5.alloc (.cells (caC 0 (fun _ => 0)).toArray 95)).setRow (W5.heap.size) (caC n (prd n m m)).toArray) (w.heap.size) 64 23 (x) := ((B0.alloc (.cells (caC 0 (fun _ => 0)).toArray 95)).rowOther (by omega))
        have qB1 : Blk ((W5.alloc (.cells (caC 0 (fun _ => 0)).toArray 95)).setRow (W5.heap.size) (caC n (prd n m m)).toArray) (w.heap.size + 1) 64 23 (m) := ((B1.alloc (.cells (caC 0 (fun _ => 0)).toArray 95)).rowOther (by omega))
        have qB2 : Blk ((W5.alloc (.cells (caC 0 (fun _ => 0)).toArray 95)).setRow (W5.heap.size) (caC n (prd n m m)).toArray) (w.heap.size + 1 + 1) 64 23 (fun _ => 0) := ((B2.alloc (.cells (caC 0 (fun _ => 0)).toArray 95)).rowOther (by omega))
        have qB3 : Row ((W5.alloc (.cells (caC 0 (fun _ => 0)).toArray 95)).setRow (W5.heap.size) (caC n (prd n m m)).toArray) (W5.heap.size) 95 (caC n (prd n m m)).toArray := ((Row.new W5 95 (caC 0 (fun _ => 0)).toArray).row (caC n (prd n m m)).toArray)
        have qhb : Below w.heap.size w ((W5.alloc (.cells (caC 0 (fun _ => 0)).toArray 95)).setRow (W5.heap.size) (caC n (prd n m m)).toArray) := (below_row (hb.alloc (by have := hb.size; simp; omega) (.cells (caC 0 (fun _ => 0)).toArray 95)) (by omega) _)
        obtain ⟨W6, hwo⟩ : ∃ v : World, v = ((W5.alloc (.cells (caC 0 (fun _ => 0)).toArray 95)).setRow (W5.heap.size) (caC n (prd n m m)).toArray) := ⟨_, rfl⟩
        rw [← hwo] at qB0 qB1 qB2 qB3 qhb ⊢
        clear hwo
        clear B0 B1 B2 hb
        have B0 := qB0
        have B1 := qB1
        have B2 := qB2
        have B3 := qB3
        have hb := qhb
        clear qB0 qB1 qB2 qB3 qhb
        obtain ⟨N1, hNN⟩ : ∃ n : Nat, n = W5.heap.size := ⟨_, rfl⟩
        rw [← hNN] at lt_B0 lt_B1 lt_B2 lhb B3 ⊢
        clear hNN
        have zN1_0 := lt_B0
        have zN1_1 := lt_B1
        have zN1_2 := lt_B2
        have zN1 := lhb
        clear lt_B0 lt_B1 lt_B2 lhb
        try simp only [Act.put, List.setIfInBounds_toArray, List.set_cons_zero, List.set_cons_succ]
        have lt_B0 : (w.heap.size) < W6.heap.size := B0.lt
        have lt_B1 : (w.heap.size + 1) < W6.heap.size := B1.lt
        have lt_B2 : (w.heap.size + 1 + 1) < W6.heap.size := B2.lt
        have lt_B3 : (N1) < W6.heap.size := B3.lt
        have hbase : w.heap.size ≤ W6.heap.size := hb.size
        refine wp_region_steps0 Try.mixed (by kernel_rfl) (by kernel_rfl) (fun v => by (simp only [frL, Act.put, List.setIfInBounds_toArray, List.set_cons_zero, List.set_cons_succ, Nat.reduceAdd, Nat.zero_add]; exact rfl))
          (fun L v W7 => Below w.heap.size w W7 ∧ W6.heap.size ≤ W7.heap.size ∧ Blk W7 (w.heap.size) 64 23 (x) ∧ Blk W7 (w.heap.size + 1) 64 23 (m) ∧ Blk W7 (w.heap.size + 1 + 1) 64 23 (fun _ => 0) ∧ Row W7 (N1) 95 (caC n (prd n m m)).toArray ∧ (L 0 = true → v 0 = (.agg (caC n (prd n m m)).toArray)) ∧ (L 1 = true → v 1 = (.int .i64 (n : Int))) ∧ (L 2 = true → v 2 = (.agg (bcells 64 (m)))) ∧ (L 3 = true → v 3 = (.agg (bcells 64 (oneP)))) ∧ (L 4 = true → v 4 = (.agg (bcells 64 (lsP n m)))) ∧ (L 5 = true → v 5 = (.int .i64 (n : Int))) ∧ (L 6 = true → v 6 = (.agg (bcells 64 (x)))) ∧ (L 7 = true → v 7 = (.agg (bcells 64 (m)))) ∧ (L 8 = true → v 8 = (.agg (bcells 64 (resP n x m)))) ∧ (L 9 = true → v 9 = (.agg (bcells 64 (drP n x m)))) ∧ (L 10 = true → AF (v 10) W7 W6.heap.size 64 23) ∧ (L 11 = true → PF (v 10) W7 W6.heap.size 64 23 (drP n x m))) ?_ ?_ ?_
        · intro v hv0
          exact ⟨hb.drew, Nat.le_refl _, B0.drew, B1.drew, B2.drew, B3.drew, (fun h => by cases h), (fun h => by cases h), (fun h => by cases h), (fun h => by cases h), (fun h => by cases h), (fun h => by cases h), (fun h => by cases h), (fun h => by cases h), (fun h => by cases h), (fun h => by cases h), (fun h => by cases h), (fun h => by cases h)⟩
        · refine (.cons rfl ?_ (.cons rfl ?_ (.cons rfl ?_ (.cons rfl ?_ (.cons rfl ?_ (.cons rfl ?_ (.cons rfl ?_ (.cons rfl ?_ (.cons rfl ?_ (.cons rfl ?_ (.cons rfl ?_ (.cons rfl ?_ (.nil _)))))))))))))
          · intro L v W7 hd hn ⟨hB, hz, s0, s1, s2, s3, h0, h1, h2, h3, h4, h5, h6, h7, h8, h9, h10, h11⟩ K hK
            refine wp_load_rowv 95 _ rfl _ rfl 95 _ s3 _ Try.underlying95 rfl 65 Try.size95 (by simp [caC_len]) ?_
            exact hK _ _ _ rfl ⟨hB, hz, s0, s1, s2, s3, (fun _ => rfl), h1, h2, h3, h4, h5, h6, h7, h8, h9, h10, h11⟩
          · intro L v W7 hd hn ⟨hB, hz, s0, s1, s2, s3, h0, h1, h2, h3, h4, h5, h6, h7, h8, h9, h10, h11⟩ K hK
            go_wp2_with fail
            exact hK _ (.int .i64 (n : Int)) _ (by simp only [Act.put, List.setIfInBounds_toArray, List.set_cons_zero, List.set_cons_succ ]) ⟨hB, hz, s0, s1, s2, s3, h0, (fun _ => rfl), h2, h3, h4, h5, h6, h7, h8, h9, h10, h11⟩
          · intro L v W7 hd hn ⟨hB, hz, s0, s1, s2, s3, h0, h1, h2, h3, h4, h5, h6, h7, h8, h9, h10, h11⟩ K hK
            refine wp_load_any 23 _ rfl _ rfl 64 23 _ s1 _ Try.underlying23 rfl Try.size23 ?_
            exact hK _ _ _ rfl ⟨hB, hz, s0, s1, s2, s3, h0, h1, (fun _ => rfl), h3, h4, h5, h6, h7, h8, h9, h10, h11⟩
          · intro L v W7 hd hn ⟨hB, hz, s0, s1, s2, s3, h0, h1, h2, h3, h4, h5, h6, h7, h8, h9, h10, h11⟩ K hK
            refine wp_build_of 23 _ rfl (bcells 64 oneP) (by rw [Array.toList_map]; show Try.prog.built 23 [(0, .int .u8 1)] = some (bcells 64 oneP); exact built_one) ?_
            exact hK _ _ _ rfl ⟨hB, hz, s0, s1, s2, s3, h0, h1, h2, (fun _ => rfl), h4, h5, h6, h7, h8, h9, h10, h11⟩
          · intro L v W7 hd hn ⟨hB, hz, s0, s1, s2, s3, h0, h1, h2, h3, h4, h5, h6, h7, h8, h9, h10, h11⟩ K hK
            have e1 := h1 (hd ⟨1, .data⟩ (by simp) rfl)
            have e2 := h2 (hd ⟨2, .data⟩ (by simp) rfl)
            have e3 := h3 (hd ⟨3, .data⟩ (by simp) rfl)
            go_wp2_with (go_at_call 124; refine (HDI.out _).mono ?_; rintro e wy ⟨rfl, hy⟩)
            exact hK _ (.agg (bcells 64 (lsP n m))) _ (by simp only [Act.put, List.setIfInBounds_toArray, List.set_cons_zero, List.set_cons_succ, e1, e2, e3]) ⟨hB.trans (hy.mono hB.size), (Nat.le_trans hz hy.size), (s0).below hy (s0).lt, (s1).below hy (s1).lt, (s2).below hy (s2).lt, (s3).below hy (s3).lt, h0, h1, h2, h3, (fun _ => rfl), h5, h6, h7, h8, h9, (fun h => (h10 h).below hy), (fun h => (h11 h).below hy)⟩
          · intro L v W7 hd hn ⟨hB, hz, s0, s1, s2, s3, h0, h1, h2, h3, h4, h5, h6, h7, h8, h9, h10, h11⟩ K hK
            go_wp2_with fail
            exact hK _ (.int .i64 (n : Int)) _ (by simp only [Act.put, List.setIfInBounds_toArray, List.set_cons_zero, List.set_cons_succ ]) ⟨hB, hz, s0, s1, s2, s3, h0, h1, h2, h3, h4, (fun _ => rfl), h6, h7, h8, h9, h10, h11⟩
          · intro L v W7 hd hn ⟨hB, hz, s0, s1, s2, s3, h0, h1, h2, h3, h4, h5, h6, h7, h8, h9, h10, h11⟩ K hK
            refine wp_load_any 23 _ rfl _ rfl 64 23 _ s0 _ Try.underlying23 rfl Try.size23 ?_
            exact hK _ _ _ rfl ⟨hB, hz, s0, s1, s2, s3, h0, h1, h2, h3, h4, h5, (fun _ => rfl), h7, h8, h9, h10, h11⟩
          · intro L v W7 hd hn ⟨hB, hz, s0, s1, s2, s3, h0, h1, h2, h3, h4, h5, h6, h7, h8, h9, h10, h11⟩ K hK
            refine wp_load_any 23 _ rfl _ rfl 64 23 _ s1 _ Try.underlying23 rfl Try.size23 ?_
            exact hK _ _ _ rfl ⟨hB, hz, s0, s1, s2, s3, h0, h1, h2, h3, h4, h5, h6, (fun _ => rfl), h8, h9, h10, h11⟩
          · intro L v W7 hd hn ⟨hB, hz, s0, s1, s2, s3, h0, h1, h2, h3, h4, h5, h6, h7, h8, h9, h10, h11⟩ K hK
            have e5 := h5 (hd ⟨5, .data⟩ (by simp) rfl)
            have e6 := h6 (hd ⟨6, .data⟩ (by simp) rfl)
            have e7 := h7 (hd ⟨7, .data⟩ (by simp) rfl)
            go_wp2_with (go_at_call 113; refine (HRO.out _).mono ?_; rintro e wy ⟨rfl, hy⟩)
            exact hK _ (.agg (bcells 64 (resP n x m))) _ (by simp only [Act.put, List.setIfInBounds_toArray, List.set_cons_zero, List.set_cons_succ, e5, e6, e7]) ⟨hB.trans (hy.mono hB.size), (Nat.le_trans hz hy.size), (s0).below hy (s0).lt, (s1).below hy (s1).lt, (s2).below hy (s2).lt, (s3).below hy (s3).lt, h0, h1, h2, h3, h4, h5, h6, h7, (fun _ => rfl), h9, (fun h => (h10 h).below hy), (fun h => (h11 h).below hy)⟩
          · intro L v W7 hd hn ⟨hB, hz, s0, s1, s2, s3, h0, h1, h2, h3, h4, h5, h6, h7, h8, h9, h10, h11⟩ K hK
            have e0 := h0 (hd ⟨0, .data⟩ (by simp) rfl)
            have e4 := h4 (hd ⟨4, .data⟩ (by simp) rfl)
            have e8 := h8 (hd ⟨8, .data⟩ (by simp) rfl)
            go_wp2_with (go_at_call 112; refine (HAC.out _).mono ?_; rintro e wy ⟨rfl, hy⟩)
            exact hK _ (.agg (bcells 64 (drP n x m))) _ (by simp only [Act.put, List.setIfInBounds_toArray, List.set_cons_zero, List.set_cons_succ, e0, e4, e8]) ⟨hB.trans (hy.mono hB.size), (Nat.le_trans hz hy.size), (s0).below hy (s0).lt, (s1).below hy (s1).lt, (s2).below hy (s2).lt, (s3).below hy (s3).lt, h0, h1, h2, h3, h4, h5, h6, h7, h8, (fun _ => rfl), (fun h => (h10 h).below hy), (fun h => (h11 h).below hy)⟩
          · intro L v W7 hd hn ⟨hB, hz, s0, s1, s2, s3, h0, h1, h2, h3, h4, h5, h6, h7, h8, h9, h10, h11⟩ K hK
            go_wp2_with fail
            rw [← zero64]
            exact hK _ (.pointer (some ⟨W7.heap.size, 0, none⟩)) _ (by simp only [Act.put, List.setIfInBounds_toArray, List.set_cons_zero, List.set_cons_succ ]) ⟨hB.alloc hB.size _, (by simp; omega), (s0).alloc _, (s1).alloc _, (s2).alloc _, (s3).alloc _, h0, h1, h2, h3, h4, h5, h6, h7, h8, h9, (fun _ => (PF.new W7 64 23 _ hz).af), (fun h => absurd rfl (hn 11 _ rfl h ⟨10, .data⟩ (by simp) rfl))⟩
          · intro L v W7 hd hn ⟨hB, hz, s0, s1, s2, s3, h0, h1, h2, h3, h4, h5, h6, h7, h8, h9, h10, h11⟩ K hK
            have e9 := h9 (hd ⟨9, .data⟩ (by simp) rfl)
            obtain ⟨gz, b, ea, hN, hk⟩ := (h10 (hd ⟨10, .data⟩ (by simp) rfl)).out
            refine wp_store_blk 23 _ _ rfl b 64 (drP n x m) ea e9 23 gz hk Try.size23 ?_
            exact hK _ undef _ rfl ⟨below_row hB (Nat.le_trans hbase hN) _, (by simpa [World.setRow] using hz), (s0).rowOther (by omega), (s1).rowOther (by omega), (s2).rowOther (by omega), (s3).rowOther (by omega), h0, h1, h2, h3, h4, h5, h6, h7, h8, h9, (fun h => (h10 h).row hk), (fun _ => by rw [show updV v 11 undef 10 = v 10 from rfl, ea]; exact PF.row hk hN _)⟩
        · intro L v W7 hL ⟨hB, hz, s0, s1, s2, s3, h0, h1, h2, h3, h4, h5, h6, h7, h8, h9, h10, h11⟩
          have e0 := h0 (hL 0 (by decide))
          have e1 := h1 (hL 1 (by decide))
          have e2 := h2 (hL 2 (by decide))
          have e3 := h3 (hL 3 (by decide))
          have e4 := h4 (hL 4 (by decide))
          have e5 := h5 (hL 5 (by decide))
          have e6 := h6 (hL 6 (by decide))
          have e7 := h7 (hL 7 (by decide))
          have e8 := h8 (hL 8 (by decide))
          have e9 := h9 (hL 9 (by decide))
          obtain ⟨k9_10, e10, hNk9_10, hk9_10⟩ := (h11 (hL 11 (by decide))).out
          clear hL h0 h1 h2 h3 h4 h5 h6 h7 h8 h9 h10 h11
          simp only [Exit.then, e0, e1, e2, e3, e4, e5, e6, e7, e8, e9, e10]
          clear e0 e1 e2 e3 e4 e5 e6 e7 e8 e9 e10
          clear B0
          have B0 := s0
          clear s0
          clear B1
          have B1 := s1
          clear s1
          clear B2
          have B2 := s2
          clear s2
          clear B3
          have B3 := s3
          clear s3
          clear hb
          have hb := hB
          clear hB
          have B4 := hk9_10
          clear hk9_10
          have zk9_10_0 : w.heap.size < k9_10 := by omega
          have zk9_10_1 : w.heap.size + 1 < k9_10 := by omega
          have zk9_10_2 : w.heap.size + 1 + 1 < k9_10 := by omega
          have zk9_10_3 : N1 < k9_10 := by omega
          clear hbase hz lt_B0 lt_B1 lt_B2 lt_B3
          go_upto_region 10 with (fail)
          have lt_B0 := B0.lt
          have lt_B1 := B1.lt
          have lt_B2 := B2.lt
          have lt_B3 := B3.lt
          have lt_B4 := B4.lt
          go_upto_region 11 with (first | rw [← zero64] | (refine wpList_load_any rfl 23 (.tmp 10) rfl _ rfl 64 23 _ (B4) _ Try.underlying23 rfl Try.size23 ?_) | (refine wpList_load_any rfl 23 (.tmp 5) rfl _ rfl 64 23 _ (B1) _ Try.underlying23 rfl Try.size23 ?_) | (go_at_call 125; refine (HQR.out _).mono ?_; rintro e W8 ⟨rfl, hW8⟩; replace B0 := B0.below hW8 B0.lt; replace B1 := B1.below hW8 B1.lt; replace B2 := B2.below hW8 B2.lt; replace B3 := B3.below hW8 B3.lt; replace B4 := B4.below hW8 B4.lt; replace hb := (hb).trans (hW8.mono (hb).size)) | (refine wpList_store_blk rfl 23 (.tmp 11) (.tmp 52) rfl _ 64 (quoP n (drP n x m) m) rfl rfl 23 _ (((Blk.new W8 64 23 (fun _ => 0)).alloc (.cells (bcells 64 fun _ => 0) 23))) Try.size23 ?_; try simp only [Act.put]) | (refine wpList_store_blk rfl 23 (.tmp 12) (.tmp 53) rfl _ 64 (resP n (drP n x m) m) rfl rfl 23 _ (((show Blk ((W8.alloc (.cells (bcells 64 fun _ => 0) 23)).alloc (.cells (bcells 64 fun _ => 0) 23)) (W8.heap.size + 1) 64 23 (fun _ => 0) by have := Blk.new (W8.alloc (.cells (bcells 64 fun _ => 0) 23)) 64 23 (fun _ => 0); simpa using this).rowOther (by omega))) Try.size23 ?_; try simp only [Act.put]))
          have lt_B0 := B0.lt
          have lt_B1 := B1.lt
          have lt_B2 := B2.lt
          have lt_B3 := B3.lt
          have lt_B4 := B4.lt
          have lhb := hb.size
          have qB0 : Blk ((((W8.alloc (.cells (bcells 64 fun _ => 0) 23)).alloc (.cells (bcells 64 fun _ => 0) 23)).setRow (W8.heap.size) (bcells 64 (quoP n (drP n x m) m))).setRow (W8.heap.size + 1) (bcells 64 (resP n (drP n x m) m))) (w.heap.size) 64 23 (x) := ((((B0.alloc (.cells (bcells 64 fun _ => 0) 23)).alloc (.cells (bcells 64 fun _ => 0) 23)).rowOther (by omega)).rowOther (by omega))
          have qB1 : Blk ((((W8.alloc (.cells (bcells 64 fun _ => 0) 23)).alloc (.cells (bcells 64 fun _ => 0) 23)).setRow (W8.heap.size) (bcells 64 (quoP n (drP n x m) m))).setRow (W8.heap.size + 1) (bcells 64 (resP n (drP n x m) m))) (w.heap.size + 1) 64 23 (m) := ((((B1.alloc (.cells (bcells 64 fun _ => 0) 23)).alloc (.cells (bcells 64 fun _ => 0) 23)).rowOther (by omega)).rowOther (by omega))
          have qB2 : Blk ((((W8.alloc (.cells (bcells 64 fun _ => 0) 23)).alloc (.cells (bcells 64 fun _ => 0) 23)).setRow (W8.heap.size) (bcells 64 (quoP n (drP n x m) m))).setRow (W8.heap.size + 1) (bcells 64 (resP n (drP n x m) m))) (w.heap.size + 1 + 1) 64 23 (fun _ => 0) := ((((B2.alloc (.cells (bcells 64 fun _ => 0) 23)).alloc (.cells (bcells 64 fun _ => 0) 23)).rowOther (by omega)).rowOther (by omega))
          have qB3 : Row ((((W8.alloc (.cells (bcells 64 fun _ => 0) 23)).alloc (.cells (bcells 64 fun _ => 0) 23)).setRow (W8.heap.size) (bcells 64 (quoP n (drP n x m) m))).setRow (W8.heap.size + 1) (bcells 64 (resP n (drP n x m) m))) (N1) 95 (caC n (prd n m m)).toArray := ((((B3.alloc (.cells (bcells 64 fun _ => 0) 23)).alloc (.cells (bcells 64 fun _ => 0) 23)).rowOther (by omega)).rowOther (by omega))
          have qB4 : Blk ((((W8.alloc (.cells (bcells 64 fun _ => 0) 23)).alloc (.cells (bcells 64 fun _ => 0) 23)).setRow (W8.heap.size) (bcells 64 (quoP n (drP n x m) m))).setRow (W8.heap.size + 1) (bcells 64 (resP n (drP n x m) m))) (k9_10) 64 23 (drP n x m) := ((((B4.alloc (.cells (bcells 64 fun _ => 0) 23)).alloc (.cells (bcells 64 fun _ => 0) 23)).rowOther (by omega)).rowOther (by omega))
          have qB5 : Blk ((((W8.alloc (.cells (bcells 64 fun _ => 0) 23)).alloc (.cells (bcells 64 fun _ => 0) 23)).setRow (W8.heap.size) (bcells 64 (quoP n (drP n x m) m))).setRow (W8.heap.size + 1) (bcells 64 (resP n (drP n x m) m))) (W8.heap.size) 64 23 (quoP n (drP n x m) m) := ((((Blk.new W8 64 23 (fun _ => 0)).alloc (.cells (bcells 64 fun _ => 0) 23)).row (quoP n (drP n x m) m)).rowOther (by omega))
          have qB6 : Blk ((((W8.alloc (.cells (bcells 64 fun _ => 0) 23)).alloc (.cells (bcells 64 fun _ => 0) 23)).setRow (W8.heap.size) (bcells 64 (quoP n (drP n x m) m))).setRow (W8.heap.size + 1) (bcells 64 (resP n (drP n x m) m))) (W8.heap.size + 1) 64 23 (resP n (drP n x m) m) := (((show Blk ((W8.alloc (.cells (bcells 64 fun _ => 0) 23)).alloc (.cells (bcells 64 fun _ => 0) 23)) (W8.heap.size + 1) 64 23 (fun _ => 0) by have := Blk.new (W8.alloc (.cells (bcells 64 fun _ => 0) 23)) 64 23 (fun _ => 0); simpa using this).rowOther (by omega)).row (resP n (drP n x m) m))
          have qhb : Below w.heap.size w ((((W8.alloc (.cells (bcells 64 fun _ => 0) 23)).alloc (.cells (bcells 64 fun _ => 0) 23)).setRow (W8.heap.size) (bcells 64 (quoP n (drP n x m) m))).setRow (W8.heap.size + 1) (bcells 64 (resP n (drP n x m) m))) := (below_row (below_row ((hb.alloc (by have := hb.size; simp; omega) (.cells (bcells 64 fun _ => 0) 23)).alloc (by have := hb.size; simp; omega) (.cells (bcells 64 fun _ => 0) 23)) (by omega) _) (by omega) _)
          obtain ⟨W9, hwo⟩ : ∃ v : World, v = ((((W8.alloc (.cells (bcells 64 fun _ => 0) 23)).alloc (.cells (bcells 64 fun _ => 0) 23)).setRow (W8.heap.size) (bcells 64 (quoP n (drP n x m) m))).setRow (W8.heap.size + 1) (bcells 64 (resP n (drP n x m) m))) := ⟨_, rfl⟩
          rw [← hwo] at qB0 qB1 qB2 qB3 qB4 qB5 qB6 qhb ⊢
          clear hwo
          clear B0 B1 B2 B3 B4 hb
          have B0 := qB0
          have B1 := qB1
          have B2 := qB2
          have B3 := qB3
          have B4 := qB4
          have B5 := qB5
          have B6 := qB6
          have hb := qhb
          clear qB0 qB1 qB2 qB3 qB4 qB5 qB6 qhb
          obtain ⟨N2, hNN⟩ : ∃ n : Nat, n = W8.heap.size := ⟨_, rfl⟩
          rw [← hNN] at lt_B0 lt_B1 lt_B2 lt_B3 lt_B4 lhb B5 B6 ⊢
          clear hNN
          have zN2_0 := lt_B0
          have zN2_1 := lt_B1
          have zN2_2 := lt_B2
          have zN2_3 := lt_B3
          have zN2_4 := lt_B4
          have zN2 := lhb
          clear lt_B0 lt_B1 lt_B2 lt_B3 lt_B4 lhb
          try simp only [Act.put, List.setIfInBounds_toArray, List.set_cons_zero, List.set_cons_succ]
          have lt_B0 := B0.lt
          have lt_B1 := B1.lt
          have lt_B2 := B2.lt
          have lt_B3 := B3.lt
          have lt_B4 := B4.lt
          have lt_B5 := B5.lt
          have lt_B6 := B6.lt
          go_wp2_with (first | rw [← zero64] | (refine wpList_load_any rfl 23 (.tmp 11) rfl _ rfl 64 23 _ (B5) _ Try.underlying23 rfl Try.size23 ?_) | (refine wpList_store_blk rfl 23 (.tmp 6) (.tmp 54) rfl _ 64 (quoP n (drP n x m) m) rfl rfl 23 _ (B2) Try.size23 ?_; try simp only [Act.put]; go_wp2_with fail))
          have qB0 : Blk (W9.setRow (w.heap.size + 1 + 1) (bcells 64 (quoP n (drP n x m) m))) (w.heap.size) 64 23 (x) := (B0.rowOther (by omega))
          have qB1 : Blk (W9.setRow (w.heap.size + 1 + 1) (bcells 64 (quoP n (drP n x m) m))) (w.heap.size + 1) 64 23 (m) := (B1.rowOther (by omega))
          have qB2 : Blk (W9.setRow (w.heap.size + 1 + 1) (bcells 64 (quoP n (drP n x m) m))) (w.heap.size + 1 + 1) 64 23 (quoP n (drP n x m) m) := (B2.row (quoP n (drP n x m) m))
          have qB3 : Row (W9.setRow (w.heap.size + 1 + 1) (bcells 64 (quoP n (drP n x m) m))) (N1) 95 (caC n (prd n m m)).toArray := (B3.rowOther (by omega))
          have qB4 : Blk (W9.setRow (w.heap.size + 1 + 1) (bcells 64 (quoP n (drP n x m) m))) (k9_10) 64 23 (drP n x m) := (B4.rowOther (by omega))
          have qB5 : Blk (W9.setRow (w.heap.size + 1 + 1) (bcells 64 (quoP n (drP n x m) m))) (N2) 64 23 (quoP n (drP n x m) m) := (B5.rowOther (by omega))
          have qB6 : Blk (W9.setRow (w.heap.size + 1 + 1) (bcells 64 (quoP n (drP n x m) m))) (N2 + 1) 64 23 (resP n (drP n x m) m) := (B6.rowOther (by omega))
          have qhb : Below w.heap.size w (W9.setRow (w.heap.size + 1 + 1) (bcells 64 (quoP n (drP n x m) m))) := (below_row hb (by omega) _)
          obtain ⟨W10, hwo⟩ : ∃ v : World, v = (W9.setRow (w.heap.size + 1 + 1) (bcells 64 (quoP n (drP n x m) m))) := ⟨_, rfl⟩
          rw [← hwo] at qB0 qB1 qB2 qB3 qB4 qB5 qB6 qhb ⊢
          clear hwo
          clear B0 B1 B2 B3 B4 B5 B6 hb
          have B0 := qB0
          have B1 := qB1
          have B2 := qB2
          have B3 := qB3
          have B4 := qB4
          have B5 := qB5
          have B6 := qB6
          have hb := qhb
          clear qB0 qB1 qB2 qB3 qB4 qB5 qB6 qhb
          try simp only [Act.put, List.setIfInBounds_toArray, List.set_cons_zero, List.set_cons_succ]
          refine bodyPost_ret (results_bt rfl _ _ _ 64 23 5 _ rfl B2 Try.underlying23 Try.size23) rfl ⟨by first | (rw [HE.out, HV2.out]; rfl) | rw [HE.out, HV2.out], hb⟩
  · have HV := Lib.hid (drV_1 hc)
    rw [hc]
    clear hc
    go_upto_region 3 with (fail)
    have lt_B0 := B0.lt
    have lt_B1 := B1.lt
    have lt_B2 := B2.lt
    go_wp2_with (first | rw [← zero64] | (refine wpList_store_blk rfl 23 (.tmp 6) (.tmp 20) rfl _ 64 (fun _ => 0) rfl rfl 23 _ (B2) Try.size23 ?_; try simp only [Act.put]; go_wp2_with fail))
    have qB0 : Blk (W2.setRow (w.heap.size + 1 + 1) (bcells 64 (fun _ => 0))) (w.heap.size) 64 23 (x) := (B0.rowOther (by omega))
    have qB1 : Blk (W2.setRow (w.heap.size + 1 + 1) (bcells 64 (fun _ => 0))) (w.heap.size + 1) 64 23 (m) := (B1.rowOther (by omega))
    have qB2 : Blk (W2.setRow (w.heap.size + 1 + 1) (bcells 64 (fun _ => 0))) (w.heap.size + 1 + 1) 64 23 (fun _ => 0) := (B2.row (fun _ => 0))
    have qhb : Below w.heap.size w (W2.setRow (w.heap.size + 1 + 1) (bcells 64 (fun _ => 0))) := (below_row hb (by omega) _)
    obtain ⟨W3, hwo⟩ : ∃ v : World, v = (W2.setRow (w.heap.size + 1 + 1) (bcells 64 (fun _ => 0))) := ⟨_, rfl⟩
    rw [← hwo] at qB0 qB1 qB2 qhb ⊢
    clear hwo
    clear B0 B1 B2 hb
    have B0 := qB0
    have B1 := qB1
    have B2 := qB2
    have hb := qhb
    clear qB0 qB1 qB2 qhb
    try simp only [Act.put, List.setIfInBounds_toArray, List.set_cons_zero, List.set_cons_succ]
    refine bodyPost_ret (results_bt rfl _ _ _ 64 23 5 _ rfl B2 Try.underlying23 Try.size23) rfl ⟨by first | (rw [HV.out]; rfl) | rw [HV.out], hb⟩
end Go.Proofs.Ytbjpkmbhbpcbgaa
