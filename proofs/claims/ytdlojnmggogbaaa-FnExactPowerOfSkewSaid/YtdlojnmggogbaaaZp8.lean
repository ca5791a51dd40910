/-
  What the rows of this claim rest on: arrays of bytes, walks of the functions, plain mathematics.
-/
import Derived.Test.YtdlojnmggogbaaaZp7
import Derived.OpenShut
import Derived.ProofKit
import Derived.Test.YtdlojnmggogbaaaRows
import Derived.JoinedOf
section
namespace Go.Proofs.Ytdlojnmggogbaaa
open Go Go.RowKit
set_option linter.unusedVariables false
set_option linter.unusedSimpArgs false
attribute [local irreducible] deg addK okA flV skD sng oneP pmP
noncomputable def poV (p : Int) (m : Nat → Nat) (F : Nat → Nat → Nat) (k : Int) : (Nat → Nat → Nat) × Int := if ckS p m [F] = 0 then (if k < 0 ∨ 1000 < k then (fun _ _ => 0, 2) else if skD F * k ≤ 7 then (pwS p.toNat m (deg m).toNat F k.toNat, 0) else (fun _ _ => 0, 3)) else (fun _ _ => 0, 1)
theorem poV_0 {n d K : Nat} {m : Nat → Nat} {F : Nat → Nat → Nat} (h : ckS (n : Int) m [F] = 0) (hd : deg m = (d : Int)) (h2 : ¬ ((K : Int) < 0 ∨ 1000 < (K : Int))) (h3 : skD F * (K : Int) ≤ 7) : poV (n : Int) m F (K : Int) = (pwS n m d F K, 0) := by
 unfold poV; rw [if_pos h, if_neg h2, if_pos h3, hd]; rfl
theorem poV_3 {p k : Int} {m : Nat → Nat} {F : Nat → Nat → Nat} (h : ckS p m [F] = 0) (h2 : ¬ (k < 0 ∨ 1000 < k)) (h3 : ¬ skD F * k ≤ 7) : poV p m F k = (fun _ _ => 0, 3) := by unfold poV; rw [if_pos h, if_neg h2, if_neg h3]
theorem poV_2 {p k : Int} {m : Nat → Nat} {F : Nat → Nat → Nat} (h : ckS p m [F] = 0) (h2 : k < 0 ∨ 1000 < k) : poV p m F k = (fun _ _ => 0, 2) := by unfold poV; rw [if_pos h, if_pos h2]
theorem poV_1 {p k : Int} {m : Nat → Nat} {F : Nat → Nat → Nat} (h : ckS p m [F] = 1) : poV p m F k = (fun _ _ => 0, 1) := if_neg (by omega)
attribute [irreducible] poV
theorem pw_fit {p : Nat} {m : Nat → Nat} {d : Nat} {F : Nat → Nat → Nat} {K : Nat} (hp : p = 2 ∨ p = 3 ∨ p = 5 ∨ p = 7) (lm : ∀ k, k < 64 → m k < p) (hmon : mon m d) (hi : irr p (cut m) d) (h9 : d ≤ 9) (hF : rsk p m F) (h3 : skD F * (K : Int) ≤ 7) {j : Nat} (hj : j < K) : skD (pwS p m d F j) + skD F ≤ 7 := by
 obtain ⟨b1, b2⟩ := zsd F
 obtain ⟨c1, c2⟩ := zsd (pwS p m d F j)
 by_cases h : skD F < 0
 · omega
 · obtain ⟨n, hn⟩ : ∃ n : Nat, skD F = (n : Int) := ⟨(skD F).toNat, by omega⟩
   rw [hn] at h3
   have h4 : n * K ≤ 7 := by exact_mod_cast h3
   have h5 : n * (j + 1) ≤ n * K := Nat.mul_le_mul_left n (by omega)
   rw [Nat.mul_succ] at h5
   rw [pwS_deg hp lm hmon hi h9 hF hn j (by omega), hn]
   have : ((n * j : Nat) : Int) + (n : Int) = ((n * j + n : Nat) : Int) := by push_cast; rfl
   rw [this]; omega
theorem mul_rng {x k : Int} (h1 : -1 ≤ x) (h2 : x ≤ 7) (h3 : 0 ≤ k) (h4 : k ≤ 1000) : -1000 ≤ x * k ∧ x * k ≤ 7000 := by
 rcases (show x = -1 ∨ x = 0 ∨ x = 1 ∨ x = 2 ∨ x = 3 ∨ x = 4 ∨ x = 5 ∨ x = 6 ∨ x = 7 by omega) with rfl | rfl | rfl | rfl | rfl | rfl | rfl | rfl | rfl <;> omega
set_option maxRecDepth 100000 in
set_option maxHeartbeats 1600000 in
theorem impl_PowerOfSkew_any (p : Int) (m : Nat → Nat) (F : Nat → Nat → Nat) (k : Int) (hm : byte m) (hF : ∀ i, byte (F i)) (w : World) :
 Calls Try.prog 26 #[.int .i64 p, .agg (zb 64 m), .agg (zb 512 (fl 64 F)), .int .i64 k] w fun e w' => e = .returned (.tuple #[.agg (zb 512 (fl 64 (poV p m F k).1)), .int .i64 (poV p m F k).2]) ∧ Below w.heap.size w w' := by
 go_enter Try.func26, Try.ntmps26
 go_upto_region 1 with (fail)
 rw [← zero512]
 obtain ⟨W1, hwo⟩ : ∃ v : World, v = (((w.alloc (.cells (zb 64 (m)) 24)).alloc (.cells (zb 512 (fl 64 F)) 26)).alloc (.cells (zb 512 (fl 64 (fun _ _ => 0))) 26)) := ⟨_, rfl⟩
 have B0 : Blk W1 (w.heap.size) 64 24 (m) := by subst hwo; have := (((Blk.new w 64 24 (m)).alloc (.cells (zb 512 (fl 64 F)) 26)).alloc (.cells (zb 512 (fl 64 (fun _ _ => 0))) 26)); simpa using this
 have B1 : Blk W1 (w.heap.size + 1) 512 26 (fl 64 F) := by subst hwo; have := ((Blk.new (w.alloc (.cells (zb 64 (m)) 24)) 512 26 (fl 64 F)).alloc (.cells (zb 512 (fl 64 (fun _ _ => 0))) 26)); simpa using this
 have B2 : Blk W1 (w.heap.size + 1 + 1) 512 26 (fl 64 (fun _ _ => 0)) := by subst hwo; have := (Blk.new ((w.alloc (.cells (zb 64 (m)) 24)).alloc (.cells (zb 512 (fl 64 F)) 26)) 512 26 (fl 64 (fun _ _ => 0))); simpa using this
 have hb : Below w.heap.size w W1 := by subst hwo; exact ((((Below.refl _ _).alloc (Nat.le_refl _) _).alloc (by simp) _).alloc (by simp; omega) _)
 rw [← hwo]
 clear hwo
 rcases ckS_two p m [F] with hc | hc
 · by_cases hk : k < 0 ∨ 1000 < k
   · have HV := Lib.hid (poV_2 hc hk)
     by_cases hk0 : k < 0
     · skip
       go_upto_region 4 with (first | (refine zla (.tmp 5) B0 Try.underlying24 Try.size24 ?_) | (refine zla (.tmp 6) B1 Try.underlying26 Try.size26 ?_) | (refine zbk rfl 159 _ [F] rfl 26 Try.underlying159 Try.elem26 (by simp) (by simp) rfl ?_; intro wa hps hba) | (go_at_call 85; refine (checkSkews_any _ m hm [F] (by simp [hF]) (by simp) _ _ hps).mono ?_; rintro e W2 ⟨rfl, hbb⟩; rw [hc]))
       have hBB : Below W1.heap.size W1 W2 := hba.trans (hbb.mono hba.size)
       replace B0 := B0.zw hBB
       replace B1 := B1.zw hBB
       replace B2 := B2.zw hBB
       replace hb := hb.trans (hBB.mono hb.size)
       clear hBB hba hbb hps
       clear hc hk
       go_upto_region 5 with (fail)
       have lt_B0 := B0.lt
       have lt_B1 := B1.lt
       have lt_B2 := B2.lt
       go_wp2_with (first | rw [← z64] | rw [← zero512] | (refine zsr (.tmp 8) (.tmp 27) (fl 64 (fun _ _ => 0)) B2 Try.size26 ?_; try simp only [Act.put]; go_wp2_with fail))
       obtain ⟨W3, hwo, hzQ⟩ : ∃ v : World, v = (W2.setRow (w.heap.size + 1 + 1) (zb 512 (fl 64 (fun _ _ => 0)))) ∧ Blk v (w.heap.size) 64 24 (m) ∧ Blk v (w.heap.size + 1) 512 26 (fl 64 F) ∧ Blk v (w.heap.size + 1 + 1) 512 26 (fl 64 (fun _ _ => 0)) ∧ Below w.heap.size w v := ⟨_, rfl, (B0.rowOther (by omega)), (B1.rowOther (by omega)), (B2.row (fl 64 (fun _ _ => 0))), (zr hb (by omega) _)⟩
       rw [← hwo]
       clear hwo B0 B1 B2 hb
       obtain ⟨B0, B1, B2, hb⟩ := hzQ
       try simp only [Act.put, pA, pB, pC]
       refine bodyPost_ret (zrt rfl _ _ _ 512 _ _ rfl B2 _ Try.underlying26 rfl Try.size26) rfl ⟨by first | (rw [HV.out]; rfl) | rw [HV.out], hb⟩
     · have hk1 : k > 1000 := by omega
       go_upto_region 4 with (first | (refine zla (.tmp 5) B0 Try.underlying24 Try.size24 ?_) | (refine zla (.tmp 6) B1 Try.underlying26 Try.size26 ?_) | (refine zbk rfl 159 _ [F] rfl 26 Try.underlying159 Try.elem26 (by simp) (by simp) rfl ?_; intro wa hps hba) | (go_at_call 85; refine (checkSkews_any _ m hm [F] (by simp [hF]) (by simp) _ _ hps).mono ?_; rintro e W2 ⟨rfl, hbb⟩; rw [hc]))
       have hBB : Below W1.heap.size W1 W2 := hba.trans (hbb.mono hba.size)
       replace B0 := B0.zw hBB
       replace B1 := B1.zw hBB
       replace B2 := B2.zw hBB
       replace hb := hb.trans (hBB.mono hb.size)
       clear hBB hba hbb hps
       clear hc hk
       go_upto_region 5 with (fail)
       have lt_B0 := B0.lt
       have lt_B1 := B1.lt
       have lt_B2 := B2.lt
       go_wp2_with (first | rw [← z64] | rw [← zero512] | (refine zsr (.tmp 8) (.tmp 27) (fl 64 (fun _ _ => 0)) B2 Try.size26 ?_; try simp only [Act.put]; go_wp2_with fail))
       obtain ⟨W3, hwo, hzQ⟩ : ∃ v : World, v = (W2.setRow (w.heap.size + 1 + 1) (zb 512 (fl 64 (fun _ _ => 0)))) ∧ Blk v (w.heap.size) 64 24 (m) ∧ Blk v (w.heap.size + 1) 512 26 (fl 64 F) ∧ Blk v (w.heap.size + 1 + 1) 512 26 (fl 64 (fun _ _ => 0)) ∧ Below w.heap.size w v := ⟨_, rfl, (B0.rowOther (by omega)), (B1.rowOther (by omega)), (B2.row (fl 64 (fun _ _ => 0))), (zr hb (by omega) _)⟩
       rw [← hwo]
       clear hwo B0 B1 B2 hb
       obtain ⟨B0, B1, B2, hb⟩ := hzQ
       try simp only [Act.put, pA, pB, pC]
       refine bodyPost_ret (zrt rfl _ _ _ 512 _ _ rfl B2 _ Try.underlying26 rfl Try.size26) rfl ⟨by first | (rw [HV.out]; rfl) | rw [HV.out], hb⟩
   · obtain ⟨K, rfl⟩ : ∃ K : Nat, k = (K : Int) := ⟨k.toNat, by omega⟩
     have hk0 : ¬ (K : Int) < 0 := by omega
     have hk1 : ¬ (K : Int) > 1000 := by omega
     by_cases hfit : skD F * (K : Int) ≤ 7
     · obtain ⟨n, rfl, hpr, lm, ⟨d, hmon, hd1, hd4⟩, hl⟩ := ckS_fld hc
       have hd := hmon.1
       have lF : ∀ i, i < 8 → ∀ j, j < 64 → F i j < n := fun i hi => (hl F (by simp) i hi).1
       have rF : rsk n m F := fun i hi => hl F (by simp) i hi
       have hirr := ckS_irr hc hmon
       obtain ⟨b1, b2⟩ := zsd F
       have HV := Lib.hid (poV_0 hc hd hk hfit)
       have HTI := Lib.hid (fun j (hj : j < K) W => skTimes_any n m (pwS n m d F j) F W hpr lm d hd hd1 (by omega) (fun i hi8 => (pwS_rsk hpr lm hmon hirr (by omega) j i hi8).1) rF (pw_fit hpr lm hmon hirr (by omega) rF hfit hj))
       have HZ := Lib.hid (pwS_z n m d F)
       have HS := Lib.hid (pwS_s n m d F)
       have hfitI : ¬ skD F * (K : Int) > 7 := by omega
       clear hl rF hirr hmon lm hpr hd lF hfit hk
       have hmr := mul_rng b1 b2 (show (0 : Int) ≤ (K : Int) by omega) (show (K : Int) ≤ 1000 by omega)
       obtain ⟨hmr1, hmr2⟩ := hmr
       go_upto_region 4 with (first | (refine zla (.tmp 5) B0 Try.underlying24 Try.size24 ?_) | (refine zla (.tmp 6) B1 Try.underlying26 Try.size26 ?_) | (refine zbk rfl 159 _ [F] rfl 26 Try.underlying159 Try.elem26 (by simp) (by simp) rfl ?_; intro wa hps hba) | (go_at_call 85; refine (checkSkews_any _ m hm [F] (by simp [hF]) (by simp) _ _ hps).mono ?_; rintro e W2 ⟨rfl, hbb⟩; rw [hc]))
       have hBB : Below W1.heap.size W1 W2 := hba.trans (hbb.mono hba.size)
       replace B0 := B0.zw hBB
       replace B1 := B1.zw hBB
       replace B2 := B2.zw hBB
       replace hb := hb.trans (hBB.mono hb.size)
       clear hBB hba hbb hps
       clear hc
       go_upto_region 6 with (fail)
       go_upto_region 8 with (first | (refine zla (.tmp 6) B1 Try.underlying26 Try.size26 ?_) | (go_at_call 86; refine (skDegree_any F _).mono ?_; rintro e W3 ⟨rfl, hW3⟩; replace B0 := B0.zw hW3; replace B1 := B1.zw hW3; replace B2 := B2.zw hW3; replace hb := (hb).trans (hW3.mono (hb).size)))
       have lt_B0 := B0.lt
       have lt_B1 := B1.lt
       have lt_B2 := B2.lt
       go_upto_region 9 with (first | rw [← z64] | rw [← zero512] | (refine zbo rfl 24 _ rfl (zb 64 oneP) (by rw [Array.toList_map]; exact built_one) ?_) | (refine zbo rfl 26 _ rfl (zb 512 (fl 64 (sng 0 oneP))) (by rw [Array.toList_map]; exact built_sk0 oneP) ?_) | (refine wpList_store_blk rfl 26 (.tmp 11) (.tmp 35) rfl _ 512 (fl 64 (sng 0 oneP)) rfl rfl 26 _ ((Blk.new W3 512 26 (fl 64 (fun _ _ => 0)))) Try.size26 ?_; try simp only [Act.put]))
       have lt_B0 := B0.lt
       have lt_B1 := B1.lt
       have lt_B2 := B2.lt
       have lhb := hb.size
       obtain ⟨W4, hwo, hzQ⟩ : ∃ v : World, v = ((W3.alloc (.cells (zb 512 (fl 64 (fun _ _ => 0))) 26)).setRow (W3.heap.size) (zb 512 (fl 64 (sng 0 oneP)))) ∧ Blk v (w.heap.size) 64 24 (m) ∧ Blk v (w.heap.size + 1) 512 26 (fl 64 F) ∧ Blk v (w.heap.size + 1 + 1) 512 26 (fl 64 (fun _ _ => 0)) ∧ Blk v (W3.heap.size) 512 26 (fl 64 (sng 0 oneP)) ∧ Below w.heap.size w v := ⟨_, rfl, ((B0.alloc (.cells (zb 512 (fl 64 (fun _ _ => 0))) 26)).rowOther (by omega)), ((B1.alloc (.cells (zb 512 (fl 64 (fun _ _ => 0))) 26)).rowOther (by omega)), ((B2.alloc (.cells (zb 512 (fl 64 (fun _ _ => 0))) 26)).rowOther (by omega)), ((Blk.new W3 512 26 (fl 64 (fun _ _ => 0))).row (fl 64 (sng 0 oneP))), (zr (hb.alloc (by have := hb.size; simp; omega) (.cells (zb 512 (fl 64 (fun _ _ => 0))) 26)) (by omega) _)⟩
       rw [← hwo]
       clear hwo B0 B1 B2 hb
       obtain ⟨B0, B1, B2, B3, hb⟩ := hzQ
       obtain ⟨N1, hNN⟩ : ∃ n : Nat, n = W3.heap.size := ⟨_, rfl⟩
       rw [← hNN] at lt_B0 lt_B1 lt_B2 lhb B3 ⊢
       clear hNN
       have zN1_0 := lt_B0
       have zN1_1 := lt_B1
       have zN1_2 := lt_B2
       have zN1 := lhb
       clear lt_B0 lt_B1 lt_B2 lhb
       try simp only [Act.put, pA, pB, pC]
       go_wp2_with fail
       go_loopw [37] (fun c wr => ∃ j : Nat, c = .int .i64 (j : Int) ∧ j ≤ K ∧ Below w.heap.size w wr ∧ Blk wr (w.heap.size) 64 24 m ∧ Blk wr (w.heap.size + 1) 512 26 (fl 64 F) ∧ Blk wr (w.heap.size + 1 + 1) 512 26 (fl 64 (fun _ _ => 0)) ∧ Blk wr (N1) 512 26 (fl 64 (pwS n m d F j))) (fun c _ => K - (intOf c).toNat)
       case atStart => exact ⟨0, rfl, Nat.zero_le _, hb, B0, B1, B2, by rw [HZ.out]; exact B3⟩
       case round =>
        clear hb B0 B1 B2 B3
        obtain ⟨j, rfl, hjK, hb, B0, B1, B2, B3⟩ := hrel
        by_cases hj : j < K
        · have hjI : (j : Int) < (K : Int) := by omega
          have HK1 := Lib.hid (HTI.out j hj)
          go_upto_region 11 with (fail)
          have lt_B0 := B0.lt
          have lt_B1 := B1.lt
          have lt_B2 := B2.lt
          have lt_B3 := B3.lt
          go_wp2_with (first | rw [← z64] | rw [← zero512] | (refine zla (.tmp 11) B3 Try.underlying26 Try.size26 ?_) | (refine zla (.tmp 5) B0 Try.underlying24 Try.size24 ?_) | (refine zbo rfl 94 _ rfl (fdC (n : Int) m).toArray (by rw [Array.toList_map]; exact built_fd (n : Int) m) ?_) | (refine zla (.tmp 6) B1 Try.underlying26 Try.size26 ?_) | (go_at_call 87; refine (HK1.out _).mono ?_; rintro e W5 ⟨rfl, hW5⟩; replace B0 := B0.zw hW5; replace B1 := B1.zw hW5; replace B2 := B2.zw hW5; replace B3 := B3.zw hW5; replace hb := (hb).trans (hW5.mono (hb).size)) | (refine zsr (.tmp 11) (.tmp 44) (fl 64 (tmP n m d (pwS n m d F j) F)) B3 Try.size26 ?_; try simp only [Act.put]))
          obtain ⟨W6, hwo, hzQ⟩ : ∃ v : World, v = (W5.setRow (N1) (zb 512 (fl 64 (tmP n m d (pwS n m d F j) F)))) ∧ Blk v (w.heap.size) 64 24 (m) ∧ Blk v (w.heap.size + 1) 512 26 (fl 64 F) ∧ Blk v (w.heap.size + 1 + 1) 512 26 (fl 64 (fun _ _ => 0)) ∧ Blk v (N1) 512 26 (fl 64 (tmP n m d (pwS n m d F j) F)) ∧ Below w.heap.size w v := ⟨_, rfl, (B0.rowOther (by omega)), (B1.rowOther (by omega)), (B2.rowOther (by omega)), (B3.row (fl 64 (tmP n m d (pwS n m d F j) F))), (zr hb (by omega) _)⟩
          rw [← hwo]
          clear hwo B0 B1 B2 B3 hb
          obtain ⟨B0, B1, B2, B3, hb⟩ := hzQ
          try simp only [Act.put, pA, pB, pC]
          go_roundw
          case rel => exact ⟨j + 1, by go_num, by omega, hb, B0, B1, B2, by rw [HS.out]; exact B3⟩
          case measure => simp [intOf] <;> omega
        · have hjI : ¬ (j : Int) < (K : Int) := by omega
          obtain rfl : j = K := by omega
          go_upto_region 13 with (fail)
          have lt_B0 := B0.lt
          have lt_B1 := B1.lt
          have lt_B2 := B2.lt
          have lt_B3 := B3.lt
          go_wp2_with (first | rw [← z64] | rw [← zero512] | (refine zla (.tmp 11) B3 Try.underlying26 Try.size26 ?_) | (refine zsr (.tmp 8) (.tmp 46) (fl 64 (pwS n m d F j)) B2 Try.size26 ?_; try simp only [Act.put]; go_wp2_with fail))
          obtain ⟨W5, hwo, hzQ⟩ : ∃ v : World, v = (wr.setRow (w.heap.size + 1 + 1) (zb 512 (fl 64 (pwS n m d F j)))) ∧ Blk v (w.heap.size) 64 24 (m) ∧ Blk v (w.heap.size + 1) 512 26 (fl 64 F) ∧ Blk v (w.heap.size + 1 + 1) 512 26 (fl 64 (pwS n m d F j)) ∧ Blk v (N1) 512 26 (fl 64 (pwS n m d F j)) ∧ Below w.heap.size w v := ⟨_, rfl, (B0.rowOther (by omega)), (B1.rowOther (by omega)), (B2.row (fl 64 (pwS n m d F j))), (B3.rowOther (by omega)), (zr hb (by omega) _)⟩
          rw [← hwo]
          clear hwo B0 B1 B2 B3 hb
          obtain ⟨B0, B1, B2, B3, hb⟩ := hzQ
          try simp only [Act.put, pA, pB, pC]
          refine bodyPost_ret (zrt rfl _ _ _ 512 _ _ rfl B2 _ Try.underlying26 rfl Try.size26) rfl ⟨by first | (rw [HV.out]; rfl) | rw [HV.out], hb⟩
     · have HV := Lib.hid (poV_3 hc hk hfit)
       have hfitI : skD F * (K : Int) > 7 := by omega
       obtain ⟨b1, b2⟩ := zsd F
       have hmr := mul_rng b1 b2 (show (0 : Int) ≤ (K : Int) by omega) (show (K : Int) ≤ 1000 by omega)
       obtain ⟨hmr1, hmr2⟩ := hmr
       go_upto_region 4 with (first | (refine zla (.tmp 5) B0 Try.underlying24 Try.size24 ?_) | (refine zla (.tmp 6) B1 Try.underlying26 Try.size26 ?_) | (refine zbk rfl 159 _ [F] rfl 26 Try.underlying159 Try.elem26 (by simp) (by simp) rfl ?_; intro wa hps hba) | (go_at_call 85; refine (checkSkews_any _ m hm [F] (by simp [hF]) (by simp) _ _ hps).mono ?_; rintro e W2 ⟨rfl, hbb⟩; rw [hc]))
       have hBB : Below W1.heap.size W1 W2 := hba.trans (hbb.mono hba.size)
       replace B0 := B0.zw hBB
       replace B1 := B1.zw hBB
       replace B2 := B2.zw hBB
       replace hb := hb.trans (hBB.mono hb.size)
       clear hBB hba hbb hps
       clear hc hfit hk
       go_upto_region 6 with (fail)
       go_upto_region 7 with (first | (refine zla (.tmp 6) B1 Try.underlying26 Try.size26 ?_) | (go_at_call 86; refine (skDegree_any F _).mono ?_; rintro e W3 ⟨rfl, hW3⟩; replace B0 := B0.zw hW3; replace B1 := B1.zw hW3; replace B2 := B2.zw hW3; replace hb := (hb).trans (hW3.mono (hb).size)))
       have lt_B0 := B0.lt
       have lt_B1 := B1.lt
       have lt_B2 := B2.lt
       go_wp2_with (first | rw [← z64] | rw [← zero512] | (refine zsr (.tmp 8) (.tmp 33) (fl 64 (fun _ _ => 0)) B2 Try.size26 ?_; try simp only [Act.put]; go_wp2_with fail))
       obtain ⟨W4, hwo, hzQ⟩ : ∃ v : World, v = (W3.setRow (w.heap.size + 1 + 1) (zb 512 (fl 64 (fun _ _ => 0)))) ∧ Blk v (w.heap.size) 64 24 (m) ∧ Blk v (w.heap.size + 1) 512 26 (fl 64 F) ∧ Blk v (w.heap.size + 1 + 1) 512 26 (fl 64 (fun _ _ => 0)) ∧ Below w.heap.size w v := ⟨_, rfl, (B0.rowOther (by omega)), (B1.rowOther (by omega)), (B2.row (fl 64 (fun _ _ => 0))), (zr hb (by omega) _)⟩
       rw [← hwo]
       clear hwo B0 B1 B2 hb
       obtain ⟨B0, B1, B2, hb⟩ := hzQ
       try simp only [Act.put, pA, pB, pC]
       refine bodyPost_ret (zrt rfl _ _ _ 512 _ _ rfl B2 _ Try.underlying26 rfl Try.size26) rfl ⟨by first | (rw [HV.out]; rfl) | rw [HV.out], hb⟩
 · have HV := Lib.hid (poV_1 (k := k) hc)
   go_upto_region 3 with (first | (refine zla (.tmp 5) B0 Try.underlying24 Try.size24 ?_) | (refine zla (.tmp 6) B1 Try.underlying26 Try.size26 ?_) | (refine zbk rfl 159 _ [F] rfl 26 Try.underlying159 Try.elem26 (by simp) (by simp) rfl ?_; intro wa hps hba) | (go_at_call 85; refine (checkSkews_any _ m hm [F] (by simp [hF]) (by simp) _ _ hps).mono ?_; rintro e W2 ⟨rfl, hbb⟩; rw [hc]))
   have hBB : Below W1.heap.size W1 W2 := hba.trans (hbb.mono hba.size)
   replace B0 := B0.zw hBB
   replace B1 := B1.zw hBB
   replace B2 := B2.zw hBB
   replace hb := hb.trans (hBB.mono hb.size)
   clear hBB hba hbb hps
   clear hc
   have lt_B0 := B0.lt
   have lt_B1 := B1.lt
   have lt_B2 := B2.lt
   go_wp2_with (first | rw [← z64] | rw [← zero512] | (refine zsr (.tmp 8) (.tmp 19) (fl 64 (fun _ _ => 0)) B2 Try.size26 ?_; try simp only [Act.put]; go_wp2_with fail))
   obtain ⟨W3, hwo, hzQ⟩ : ∃ v : World, v = (W2.setRow (w.heap.size + 1 + 1) (zb 512 (fl 64 (fun _ _ => 0)))) ∧ Blk v (w.heap.size) 64 24 (m) ∧ Blk v (w.heap.size + 1) 512 26 (fl 64 F) ∧ Blk v (w.heap.size + 1 + 1) 512 26 (fl 64 (fun _ _ => 0)) ∧ Below w.heap.size w v := ⟨_, rfl, (B0.rowOther (by omega)), (B1.rowOther (by omega)), (B2.row (fl 64 (fun _ _ => 0))), (zr hb (by omega) _)⟩
   rw [← hwo]
   clear hwo B0 B1 B2 hb
   obtain ⟨B0, B1, B2, hb⟩ := hzQ
   try simp only [Act.put, pA, pB, pC]
   refine bodyPost_ret (zrt rfl _ _ _ 512 _ _ rfl B2 _ Try.underlying26 rfl Try.size26) rfl ⟨by first | (rw [HV.out]; rfl) | rw [HV.out], hb⟩
set_option maxRecDepth 100000 in
set_option maxHeartbeats 1600000 in
theorem spec_PowerOfSkew_any (p : Int) (m : Nat → Nat) (F : Nat → Nat → Nat) (k : Int) (hm : byte m) (hF : ∀ i, byte (F i)) (w : World) :
 Calls Try.prog 23 #[.int .i64 p, .agg (zb 64 m), .agg (zb 512 (fl 64 F)), .int .i64 k] w fun e w' => e = .returned (.tuple #[.agg (zb 512 (fl 64 (poV p m F k).1)), .int .i64 (poV p m F k).2]) ∧ Below w.heap.size w w' := by
 go_enter Try.func23, Try.ntmps23
 go_upto_region 1 with (fail)
 rw [← zero512]
 obtain ⟨W1, hwo⟩ : ∃ v : World, v = (((w.alloc (.cells (zb 64 (m)) 24)).alloc (.cells (zb 512 (fl 64 F)) 26)).alloc (.cells (zb 512 (fl 64 (fun _ _ => 0))) 26)) := ⟨_, rfl⟩
 have B0 : Blk W1 (w.heap.size) 64 24 (m) := by subst hwo; have := (((Blk.new w 64 24 (m)).alloc (.cells (zb 512 (fl 64 F)) 26)).alloc (.cells (zb 512 (fl 64 (fun _ _ => 0))) 26)); simpa using this
 have B1 : Blk W1 (w.heap.size + 1) 512 26 (fl 64 F) := by subst hwo; have := ((Blk.new (w.alloc (.cells (zb 64 (m)) 24)) 512 26 (fl 64 F)).alloc (.cells (zb 512 (fl 64 (fun _ _ => 0))) 26)); simpa using this
 have B2 : Blk W1 (w.heap.size + 1 + 1) 512 26 (fl 64 (fun _ _ => 0)) := by subst hwo; have := (Blk.new ((w.alloc (.cells (zb 64 (m)) 24)).alloc (.cells (zb 512 (fl 64 F)) 26)) 512 26 (fl 64 (fun _ _ => 0))); simpa using this
 have hb : Below w.heap.size w W1 := by subst hwo; exact ((((Below.refl _ _).alloc (Nat.le_refl _) _).alloc (by simp) _).alloc (by simp; omega) _)
 rw [← hwo]
 clear hwo
 rcases ckS_two p m [F] with hc | hc
 · by_cases hk : k < 0 ∨ 1000 < k
   · have HV := Lib.hid (poV_2 hc hk)
     have HIN := Lib.hid (show ∀ W, Calls Try.prog 81 #[.int .i64 k, .int .i64 0, .int .i64 1000] W fun e w' => e = .returned (.bool false) ∧ W = w' from fun W => by have h := l01In_any k 0 1000 W; rwa [show decide ((0 : Int) ≤ k ∧ k ≤ 1000) = false by first | (simp; done) | (simp; omega)] at h)
     go_upto_region 4 with (first | (refine zla (.tmp 5) B0 Try.underlying24 Try.size24 ?_) | (refine zla (.tmp 6) B1 Try.underlying26 Try.size26 ?_) | (refine zbk rfl 159 _ [F] rfl 26 Try.underlying159 Try.elem26 (by simp) (by simp) rfl ?_; intro wa hps hba) | (go_at_call 79; refine (l03Code_any _ m hm [F] (by simp [hF]) (by simp) _ _ hps).mono ?_; rintro e W2 ⟨rfl, hbb⟩; rw [hc]))
     have hBB : Below W1.heap.size W1 W2 := hba.trans (hbb.mono hba.size)
     replace B0 := B0.zw hBB
     replace B1 := B1.zw hBB
     replace B2 := B2.zw hBB
     replace hb := hb.trans (hBB.mono hb.size)
     clear hBB hba hbb hps
     clear hc
     go_upto_region 5 with (first | (refine zla (.tmp 6) B1 Try.underlying26 Try.size26 ?_) | (go_at_call 80; refine (l03Deg_any F _).mono ?_; rintro e W3 ⟨rfl, hW3⟩; replace B0 := B0.zw hW3; replace B1 := B1.zw hW3; replace B2 := B2.zw hW3; replace hb := (hb).trans (hW3.mono (hb).size)))
     go_upto_region 6 with (first | (go_at_call 81; refine (HIN.out _).mono ?_; rintro e wS ⟨rfl, rfl⟩))
     have lt_B0 := B0.lt
     have lt_B1 := B1.lt
     have lt_B2 := B2.lt
     go_wp2_with (first | rw [← z64] | rw [← zero512] | (refine zsr (.tmp 8) (.tmp 30) (fl 64 (fun _ _ => 0)) B2 Try.size26 ?_; try simp only [Act.put]; go_wp2_with fail))
     obtain ⟨W4, hwo, hzQ⟩ : ∃ v : World, v = (W3.setRow (w.heap.size + 1 + 1) (zb 512 (fl 64 (fun _ _ => 0)))) ∧ Blk v (w.heap.size) 64 24 (m) ∧ Blk v (w.heap.size + 1) 512 26 (fl 64 F) ∧ Blk v (w.heap.size + 1 + 1) 512 26 (fl 64 (fun _ _ => 0)) ∧ Below w.heap.size w v := ⟨_, rfl, (B0.rowOther (by omega)), (B1.rowOther (by omega)), (B2.row (fl 64 (fun _ _ => 0))), (zr hb (by omega) _)⟩
     rw [← hwo]
     clear hwo B0 B1 B2 hb
     obtain ⟨B0, B1, B2, hb⟩ := hzQ
     try simp only [Act.put, pA, pB, pC]
     refine bodyPost_ret (zrt rfl _ _ _ 512 _ _ rfl B2 _ Try.underlying26 rfl Try.size26) rfl ⟨by first | (rw [HV.out]; rfl) | rw [HV.out], hb⟩
   · obtain ⟨K, rfl⟩ : ∃ K : Nat, k = (K : Int) := ⟨k.toNat, by omega⟩
     obtain ⟨b1, b2⟩ := zsd F
     by_cases hK0 : K = 0
     · subst hK0
       obtain ⟨n, rfl, hpr, lm, ⟨d, hmon, hd1, hd4⟩, hl⟩ := ckS_fld hc
       have hd := hmon.1
       have lF : ∀ i, i < 8 → ∀ j, j < 64 → F i j < n := fun i hi => (hl F (by simp) i hi).1
       have HV := Lib.hid (poV_0 (K := 0) hc hd hk (by simp))
       have HZ := Lib.hid (pwS_z n m d F)
       clear hl hmon lm hpr hd lF
       have HIN := Lib.hid (show ∀ W, Calls Try.prog 81 #[.int .i64 (0 : Int), .int .i64 0, .int .i64 1000] W fun e w' => e = .returned (.bool true) ∧ W = w' from fun W => by have h := l01In_any (0 : Int) 0 1000 W; rwa [show decide ((0 : Int) ≤ (0 : Int) ∧ (0 : Int) ≤ 1000) = true by first | (simp; done) | (simp; omega)] at h)
       try clear hk
       go_upto_region 4 with (first | (refine zla (.tmp 5) B0 Try.underlying24 Try.size24 ?_) | (refine zla (.tmp 6) B1 Try.underlying26 Try.size26 ?_) | (refine zbk rfl 159 _ [F] rfl 26 Try.underlying159 Try.elem26 (by simp) (by simp) rfl ?_; intro wa hps hba) | (go_at_call 79; refine (l03Code_any _ m hm [F] (by simp [hF]) (by simp) _ _ hps).mono ?_; rintro e W2 ⟨rfl, hbb⟩; rw [hc]))
       have hBB : Below W1.heap.size W1 W2 := hba.trans (hbb.mono hba.size)
       replace B0 := B0.zw hBB
       replace B1 := B1.zw hBB
       replace B2 := B2.zw hBB
       replace hb := hb.trans (hBB.mono hb.size)
       clear hBB hba hbb hps
       clear hc
       go_upto_region 5 with (first | (refine zla (.tmp 6) B1 Try.underlying26 Try.size26 ?_) | (go_at_call 80; refine (l03Deg_any F _).mono ?_; rintro e W3 ⟨rfl, hW3⟩; replace B0 := B0.zw hW3; replace B1 := B1.zw hW3; replace B2 := B2.zw hW3; replace hb := (hb).trans (hW3.mono (hb).size)))
       go_upto_region 7 with (first | (go_at_call 81; refine (HIN.out _).mono ?_; rintro e wS ⟨rfl, rfl⟩))
       go_upto_region 8 with (fail)
       have lt_B0 := B0.lt
       have lt_B1 := B1.lt
       have lt_B2 := B2.lt
       go_wp2_with (first | rw [← z64] | rw [← zero512] | (go_at_call 82; refine (l03One_any _).mono ?_; rintro e W4 ⟨rfl, hW4⟩; replace B0 := B0.zw hW4; replace B1 := B1.zw hW4; replace B2 := B2.zw hW4; replace hb := (hb).trans (hW4.mono (hb).size)) | (refine zsr (.tmp 8) (.tmp 34) (fl 64 (sng 0 oneP)) B2 Try.size26 ?_; try simp only [Act.put]; go_wp2_with fail))
       obtain ⟨W5, hwo, hzQ⟩ : ∃ v : World, v = (W4.setRow (w.heap.size + 1 + 1) (zb 512 (fl 64 (sng 0 oneP)))) ∧ Blk v (w.heap.size) 64 24 (m) ∧ Blk v (w.heap.size + 1) 512 26 (fl 64 F) ∧ Blk v (w.heap.size + 1 + 1) 512 26 (fl 64 (sng 0 oneP)) ∧ Below w.heap.size w v := ⟨_, rfl, (B0.rowOther (by omega)), (B1.rowOther (by omega)), (B2.row (fl 64 (sng 0 oneP))), (zr hb (by omega) _)⟩
       rw [← hwo]
       clear hwo B0 B1 B2 hb
       obtain ⟨B0, B1, B2, hb⟩ := hzQ
       try simp only [Act.put, pA, pB, pC]
       refine bodyPost_ret (zrt rfl _ _ _ 512 _ _ rfl B2 _ Try.underlying26 rfl Try.size26) rfl ⟨by first | (rw [HV.out, ← HZ.out]; done) | (rw [HV.out, ← HZ.out]; rfl), hb⟩
     · have hKn : ¬ (K : Int) = 0 := by omega
       by_cases hn0 : skD F < 0
       · obtain ⟨n, rfl, hpr, lm, ⟨d, hmon, hd1, hd4⟩, hl⟩ := ckS_fld hc
         have hd := hmon.1
         have lF : ∀ i, i < 8 → ∀ j, j < 64 → F i j < n := fun i hi => (hl F (by simp) i hi).1
         have HV := Lib.hid (poV_0 hc hd hk (by have h1 : skD F = -1 := by omega
                                                rw [h1]; omega))
         have HZ := Lib.hid (show pwS n m d F K = fun _ _ => 0 by
          obtain ⟨J, rfl⟩ : ∃ J, K = J + 1 := ⟨K - 1, by omega⟩
          rw [pwS_s]; exact tmP_zero (.inr hn0))
         clear hl hmon lm hpr hd lF
         have HIN := Lib.hid (show ∀ W, Calls Try.prog 81 #[.int .i64 (K : Int), .int .i64 0, .int .i64 1000] W fun e w' => e = .returned (.bool true) ∧ W = w' from fun W => by have h := l01In_any (K : Int) 0 1000 W; rwa [show decide ((0 : Int) ≤ (K : Int) ∧ (K : Int) ≤ 1000) = true by first | (simp; done) | (simp; omega)] at h)
         try clear hk
         go_upto_region 4 with (first | (refine zla (.tmp 5) B0 Try.underlying24 Try.size24 ?_) | (refine zla (.tmp 6) B1 Try.underlying26 Try.size26 ?_) | (refine zbk rfl 159 _ [F] rfl 26 Try.underlying159 Try.elem26 (by simp) (by simp) rfl ?_; intro wa hps hba) | (go_at_call 79; refine (l03Code_any _ m hm [F] (by simp [hF]) (by simp) _ _ hps).mono ?_; rintro e W2 ⟨rfl, hbb⟩; rw [hc]))
         have hBB : Below W1.heap.size W1 W2 := hba.trans (hbb.mono hba.size)
         replace B0 := B0.zw hBB
         replace B1 := B1.zw hBB
         replace B2 := B2.zw hBB
         replace hb := hb.trans (hBB.mono hb.size)
         clear hBB hba hbb hps
         clear hc
         go_upto_region 5 with (first | (refine zla (.tmp 6) B1 Try.underlying26 Try.size26 ?_) | (go_at_call 80; refine (l03Deg_any F _).mono ?_; rintro e W3 ⟨rfl, hW3⟩; replace B0 := B0.zw hW3; replace B1 := B1.zw hW3; replace B2 := B2.zw hW3; replace hb := (hb).trans (hW3.mono (hb).size)))
         go_upto_region 7 with (first | (go_at_call 81; refine (HIN.out _).mono ?_; rintro e wS ⟨rfl, rfl⟩))
         go_upto_region 10 with (fail)
         have lt_B0 := B0.lt
         have lt_B1 := B1.lt
         have lt_B2 := B2.lt
         go_wp2_with (first | rw [← z64] | rw [← zero512] | (refine zsr (.tmp 8) (.tmp 38) (fl 64 (fun _ _ => 0)) B2 Try.size26 ?_; try simp only [Act.put]; go_wp2_with fail))
         obtain ⟨W4, hwo, hzQ⟩ : ∃ v : World, v = (W3.setRow (w.heap.size + 1 + 1) (zb 512 (fl 64 (fun _ _ => 0)))) ∧ Blk v (w.heap.size) 64 24 (m) ∧ Blk v (w.heap.size + 1) 512 26 (fl 64 F) ∧ Blk v (w.heap.size + 1 + 1) 512 26 (fl 64 (fun _ _ => 0)) ∧ Below w.heap.size w v := ⟨_, rfl, (B0.rowOther (by omega)), (B1.rowOther (by omega)), (B2.row (fl 64 (fun _ _ => 0))), (zr hb (by omega) _)⟩
         rw [← hwo]
         clear hwo B0 B1 B2 hb
         obtain ⟨B0, B1, B2, hb⟩ := hzQ
         try simp only [Act.put, pA, pB, pC]
         refine bodyPost_ret (zrt rfl _ _ _ 512 _ _ rfl B2 _ Try.underlying26 rfl Try.size26) rfl ⟨by first | (rw [HV.out, HZ.out]; done) | (rw [HV.out]; simp only [HZ.out]; done) | (rw [HV.out, HZ.out]; rfl), hb⟩
       · by_cases hn1 : skD F = 0
         · obtain ⟨n, rfl, hpr, lm, ⟨d, hmon, hd1, hd4⟩, hl⟩ := ckS_fld hc
           have hd := hmon.1
           have lF : ∀ i, i < 8 → ∀ j, j < 64 → F i j < n := fun i hi => (hl F (by simp) i hi).1
           have rF : rsk n m F := fun i hi => hl F (by simp) i hi
           have hirr := ckS_irr hc hmon
           have h0 : 0 ≤ deg m := by omega
           have HV := Lib.hid (poV_0 hc hd hk (by rw [hn1]; omega))
           have HPM := Lib.hid (fun W => l01PowMod_any n (F 0) K m W hpr (rF 0 (by omega)).1 lm h0 (by omega))
           have HE := Lib.hid (zbc (n := 512) (fl_congr (n := 8) (c := 64) (by decide) (pwS_const hpr lm hmon hirr (by omega) rF hn1 K (by omega))))
           clear h0 hl rF hirr hmon lm hpr hd lF
           have HIN := Lib.hid (show ∀ W, Calls Try.prog 81 #[.int .i64 (K : Int), .int .i64 0, .int .i64 1000] W fun e w' => e = .returned (.bool true) ∧ W = w' from fun W => by have h := l01In_any (K : Int) 0 1000 W; rwa [show decide ((0 : Int) ≤ (K : Int) ∧ (K : Int) ≤ 1000) = true by first | (simp; done) | (simp; omega)] at h)
           try clear hk
           go_upto_region 4 with (first | (refine zla (.tmp 5) B0 Try.underlying24 Try.size24 ?_) | (refine zla (.tmp 6) B1 Try.underlying26 Try.size26 ?_) | (refine zbk rfl 159 _ [F] rfl 26 Try.underlying159 Try.elem26 (by simp) (by simp) rfl ?_; intro wa hps hba) | (go_at_call 79; refine (l03Code_any _ m hm [F] (by simp [hF]) (by simp) _ _ hps).mono ?_; rintro e W2 ⟨rfl, hbb⟩; rw [hc]))
           have hBB : Below W1.heap.size W1 W2 := hba.trans (hbb.mono hba.size)
           replace B0 := B0.zw hBB
           replace B1 := B1.zw hBB
           replace B2 := B2.zw hBB
           replace hb := hb.trans (hBB.mono hb.size)
           clear hBB hba hbb hps
           clear hc
           go_upto_region 5 with (first | (refine zla (.tmp 6) B1 Try.underlying26 Try.size26 ?_) | (go_at_call 80; refine (l03Deg_any F _).mono ?_; rintro e W3 ⟨rfl, hW3⟩; replace B0 := B0.zw hW3; replace B1 := B1.zw hW3; replace B2 := B2.zw hW3; replace hb := (hb).trans (hW3.mono (hb).size)))
           go_upto_region 7 with (first | (go_at_call 81; refine (HIN.out _).mono ?_; rintro e wS ⟨rfl, rfl⟩))
           go_upto_region 12 with (fail)
           have lt_B0 := B0.lt
           have lt_B1 := B1.lt
           have lt_B2 := B2.lt
           go_wp2_with (first | rw [← z64] | rw [← zero512] | (refine wpList_load_mid rfl 24 (.tmp 43) rfl _ (0 * 64) rfl (bl 64 (F 0)) _ ((B1).sk (by omega)) Try.underlying24 rfl (by rw [zl]; exact Try.size24) ?_) | (refine zla (.tmp 5) B0 Try.underlying24 Try.size24 ?_) | (go_at_call 83; refine (HPM.out _).mono ?_; rintro e W4 ⟨rfl, hW4⟩; replace B0 := B0.zw hW4; replace B1 := B1.zw hW4; replace B2 := B2.zw hW4; replace hb := (hb).trans (hW4.mono (hb).size)) | (refine zbo rfl 26 _ rfl (zb 512 (fl 64 (sng 0 (pmP n (F 0) K m)))) (by rw [Array.toList_map]; exact built_sk0 _) ?_) | (refine zsr (.tmp 8) (.tmp 48) (fl 64 (sng 0 (pmP n (F 0) K m))) B2 Try.size26 ?_; try simp only [Act.put]; go_wp2_with fail))
           obtain ⟨W5, hwo, hzQ⟩ : ∃ v : World, v = (W4.setRow (w.heap.size + 1 + 1) (zb 512 (fl 64 (sng 0 (pmP n (F 0) K m))))) ∧ Blk v (w.heap.size) 64 24 (m) ∧ Blk v (w.heap.size + 1) 512 26 (fl 64 F) ∧ Blk v (w.heap.size + 1 + 1) 512 26 (fl 64 (sng 0 (pmP n (F 0) K m))) ∧ Below w.heap.size w v := ⟨_, rfl, (B0.rowOther (by omega)), (B1.rowOther (by omega)), (B2.row (fl 64 (sng 0 (pmP n (F 0) K m)))), (zr hb (by omega) _)⟩
           rw [← hwo]
           clear hwo B0 B1 B2 hb
           obtain ⟨B0, B1, B2, hb⟩ := hzQ
           try simp only [Act.put, pA, pB, pC]
           refine bodyPost_ret (zrt rfl _ _ _ 512 _ _ rfl B2 _ Try.underlying26 rfl Try.size26) rfl ⟨by first | (rw [HV.out, HE.out]; done) | (rw [HV.out]; simp only [HE.out]; done) | (rw [HV.out, HE.out]; rfl), hb⟩
         · have hmr := mul_rng b1 b2 (show (0 : Int) ≤ (K : Int) by omega) (show (K : Int) ≤ 1000 by omega)
           obtain ⟨hmr1, hmr2⟩ := hmr
           by_cases hfit : skD F * (K : Int) ≤ 7
           · obtain ⟨n, rfl, hpr, lm, ⟨d, hmon, hd1, hd4⟩, hl⟩ := ckS_fld hc
             have hd := hmon.1
             have lF : ∀ i, i < 8 → ∀ j, j < 64 → F i j < n := fun i hi => (hl F (by simp) i hi).1
             have rF : rsk n m F := fun i hi => hl F (by simp) i hi
             have hirr := ckS_irr hc hmon
             have HV := Lib.hid (poV_0 hc hd hk hfit)
             have HTI := Lib.hid (fun j (hj : j < K) W => l03Times_ok n m (pwS n m d F j) F W hpr lm d hd hd1 (by omega) (fun i hi8 => (pwS_rsk hpr lm hmon hirr (by omega) j i hi8).1) rF (pw_fit hpr lm hmon hirr (by omega) rF hfit hj))
             have H1 := Lib.hid (fl_congr (n := 8) (c := 64) (by decide) (fun i hi8 k hk => (pwS_one hpr lm hmon hirr (by omega) rF i hi8 k hk).symm))
             have HS := Lib.hid (pwS_s n m d F)
             have hfitI : ¬ skD F * (K : Int) > 7 := by omega
             have hKm : K ≤ 1000 := by omega
             clear hl rF hirr hmon lm hpr hd lF
             have HIN := Lib.hid (show ∀ W, Calls Try.prog 81 #[.int .i64 (K : Int), .int .i64 0, .int .i64 1000] W fun e w' => e = .returned (.bool true) ∧ W = w' from fun W => by have h := l01In_any (K : Int) 0 1000 W; rwa [show decide ((0 : Int) ≤ (K : Int) ∧ (K : Int) ≤ 1000) = true by first | (simp; done) | (simp; omega)] at h)
             try clear hk
             go_upto_region 4 with (first | (refine zla (.tmp 5) B0 Try.underlying24 Try.size24 ?_) | (refine zla (.tmp 6) B1 Try.underlying26 Try.size26 ?_) | (refine zbk rfl 159 _ [F] rfl 26 Try.underlying159 Try.elem26 (by simp) (by simp) rfl ?_; intro wa hps hba) | (go_at_call 79; refine (l03Code_any _ m hm [F] (by simp [hF]) (by simp) _ _ hps).mono ?_; rintro e W2 ⟨rfl, hbb⟩; rw [hc]))
             have hBB : Below W1.heap.size W1 W2 := hba.trans (hbb.mono hba.size)
             replace B0 := B0.zw hBB
             replace B1 := B1.zw hBB
             replace B2 := B2.zw hBB
             replace hb := hb.trans (hBB.mono hb.size)
             clear hBB hba hbb hps
             clear hc
             go_upto_region 5 with (first | (refine zla (.tmp 6) B1 Try.underlying26 Try.size26 ?_) | (go_at_call 80; refine (l03Deg_any F _).mono ?_; rintro e W3 ⟨rfl, hW3⟩; replace B0 := B0.zw hW3; replace B1 := B1.zw hW3; replace B2 := B2.zw hW3; replace hb := (hb).trans (hW3.mono (hb).size)))
             go_upto_region 7 with (first | (go_at_call 81; refine (HIN.out _).mono ?_; rintro e wS ⟨rfl, rfl⟩))
             go_upto_region 15 with (fail)
             have lt_B0 := B0.lt
             have lt_B1 := B1.lt
             have lt_B2 := B2.lt
             go_upto_region 16 with (first | rw [← z64] | rw [← zero512] | (refine zla (.tmp 6) B1 Try.underlying26 Try.size26 ?_) | (refine wpList_store_blk rfl 26 (.tmp 12) (.tmp 55) rfl _ 512 (fl 64 F) rfl rfl 26 _ ((Blk.new W3 512 26 (fl 64 (fun _ _ => 0)))) Try.size26 ?_; try simp only [Act.put]))
             have lt_B0 := B0.lt
             have lt_B1 := B1.lt
             have lt_B2 := B2.lt
             have lhb := hb.size
             obtain ⟨W4, hwo, hzQ⟩ : ∃ v : World, v = ((W3.alloc (.cells (zb 512 (fl 64 (fun _ _ => 0))) 26)).setRow (W3.heap.size) (zb 512 (fl 64 F))) ∧ Blk v (w.heap.size) 64 24 (m) ∧ Blk v (w.heap.size + 1) 512 26 (fl 64 F) ∧ Blk v (w.heap.size + 1 + 1) 512 26 (fl 64 (fun _ _ => 0)) ∧ Blk v (W3.heap.size) 512 26 (fl 64 F) ∧ Below w.heap.size w v := ⟨_, rfl, ((B0.alloc (.cells (zb 512 (fl 64 (fun _ _ => 0))) 26)).rowOther (by omega)), ((B1.alloc (.cells (zb 512 (fl 64 (fun _ _ => 0))) 26)).rowOther (by omega)), ((B2.alloc (.cells (zb 512 (fl 64 (fun _ _ => 0))) 26)).rowOther (by omega)), ((Blk.new W3 512 26 (fl 64 (fun _ _ => 0))).row (fl 64 F)), (zr (hb.alloc (by have := hb.size; simp; omega) (.cells (zb 512 (fl 64 (fun _ _ => 0))) 26)) (by omega) _)⟩
             rw [← hwo]
             clear hwo B0 B1 B2 hb
             obtain ⟨B0, B1, B2, B3, hb⟩ := hzQ
             obtain ⟨N1, hNN⟩ : ∃ n : Nat, n = W3.heap.size := ⟨_, rfl⟩
             rw [← hNN] at lt_B0 lt_B1 lt_B2 lhb B3 ⊢
             clear hNN
             have zN1_0 := lt_B0
             have zN1_1 := lt_B1
             have zN1_2 := lt_B2
             have zN1 := lhb
             clear lt_B0 lt_B1 lt_B2 lhb
             try simp only [Act.put, pA, pB, pC]
             go_wp2_with fail
             go_loopw [3] (fun c wr => ∃ i j : Nat, c = .int .i64 (i : Int) ∧ i + j = K + 1 ∧ 1 ≤ j ∧ 1 ≤ i ∧ Below w.heap.size w wr ∧ Blk wr (w.heap.size) 64 24 m ∧ Blk wr (w.heap.size + 1) 512 26 (fl 64 F) ∧ Blk wr (w.heap.size + 1 + 1) 512 26 (fl 64 (fun _ _ => 0)) ∧ Blk wr (N1) 512 26 (fl 64 (pwS n m d F j))) (fun c _ => (intOf c).toNat)
             case atStart => exact ⟨K, 1, rfl, by omega, by omega, by omega, hb, B0, B1, B2, B3.congr H1.out⟩
             case round =>
              clear hb B0 B1 B2 B3
              obtain ⟨i, j, rfl, hij, hj1, hi1, hb, B0, B1, B2, B3⟩ := hrel
              by_cases hi : 1 < i
              · have hiI : (i : Int) > 1 := by omega
                have hiK : i ≤ 1000 := by omega
                have HK1 := Lib.hid (HTI.out j (by omega))
                have Hij := Lib.hid hij
                clear hij
                go_upto_region 18 with (fail)
                have lt_B0 := B0.lt
                have lt_B1 := B1.lt
                have lt_B2 := B2.lt
                have lt_B3 := B3.lt
                go_upto_region 19 with (first | rw [← z64] | rw [← zero512] | (refine zla (.tmp 5) B0 Try.underlying24 Try.size24 ?_) | (refine zla (.tmp 12) B3 Try.underlying26 Try.size26 ?_) | (refine zla (.tmp 6) B1 Try.underlying26 Try.size26 ?_) | (go_at_call 84; refine (HK1.out _).mono ?_; rintro e W5 ⟨rfl, hW5⟩; replace B0 := B0.zw hW5; replace B1 := B1.zw hW5; replace B2 := B2.zw hW5; replace B3 := B3.zw hW5; replace hb := (hb).trans (hW5.mono (hb).size)) | (refine wpList_store_blk rfl 26 (.tmp 13) (.tmp 66) rfl _ 512 (fl 64 (tmP n m d (pwS n m d F j) F)) rfl rfl 26 _ ((Blk.new W5 512 26 (fl 64 (fun _ _ => 0)))) Try.size26 ?_; try simp only [Act.put]; go_upto_region 19 with (fail)))
                have lt_B0 := B0.lt
                have lt_B1 := B1.lt
                have lt_B2 := B2.lt
                have lt_B3 := B3.lt
                have lhb := hb.size
                obtain ⟨W6, hwo, hzQ⟩ : ∃ v : World, v = ((W5.alloc (.cells (zb 512 (fl 64 (fun _ _ => 0))) 26)).setRow (W5.heap.size) (zb 512 (fl 64 (tmP n m d (pwS n m d F j) F)))) ∧ Blk v (w.heap.size) 64 24 (m) ∧ Blk v (w.heap.size + 1) 512 26 (fl 64 F) ∧ Blk v (w.heap.size + 1 + 1) 512 26 (fl 64 (fun _ _ => 0)) ∧ Blk v (N1) 512 26 (fl 64 (pwS n m d F j)) ∧ Blk v (W5.heap.size) 512 26 (fl 64 (tmP n m d (pwS n m d F j) F)) ∧ Below w.heap.size w v := ⟨_, rfl, ((B0.alloc (.cells (zb 512 (fl 64 (fun _ _ => 0))) 26)).rowOther (by omega)), ((B1.alloc (.cells (zb 512 (fl 64 (fun _ _ => 0))) 26)).rowOther (by omega)), ((B2.alloc (.cells (zb 512 (fl 64 (fun _ _ => 0))) 26)).rowOther (by omega)), ((B3.alloc (.cells (zb 512 (fl 64 (fun _ _ => 0))) 26)).rowOther (by omega)), ((Blk.new W5 512 26 (fl 64 (fun _ _ => 0))).row (fl 64 (tmP n m d (pwS n m d F j) F))), (zr (hb.alloc (by have := hb.size; simp; omega) (.cells (zb 512 (fl 64 (fun _ _ => 0))) 26)) (by omega) _)⟩
                rw [← hwo]
                clear hwo B0 B1 B2 B3 hb
                obtain ⟨B0, B1, B2, B3, B4, hb⟩ := hzQ
                obtain ⟨N2, hNN⟩ : ∃ n : Nat, n = W5.heap.size := ⟨_, rfl⟩
                rw [← hNN] at lt_B0 lt_B1 lt_B2 lt_B3 lhb B4 ⊢
                clear hNN
                have zN2_0 := lt_B0
                have zN2_1 := lt_B1
                have zN2_2 := lt_B2
                have zN2_3 := lt_B3
                have zN2 := lhb
                clear lt_B0 lt_B1 lt_B2 lt_B3 lhb
                try simp only [Act.put, pA, pB, pC]
                have lt_B0 := B0.lt
                have lt_B1 := B1.lt
                have lt_B2 := B2.lt
                have lt_B3 := B3.lt
                have lt_B4 := B4.lt
                go_upto_region 17 with (first | rw [← z64] | rw [← zero512] | (refine zla (.tmp 13) B4 Try.underlying26 Try.size26 ?_) | (refine zsr (.tmp 12) (.tmp 68) (fl 64 (tmP n m d (pwS n m d F j) F)) B3 Try.size26 ?_; try simp only [Act.put]))
                obtain ⟨W7, hwo, hzQ⟩ : ∃ v : World, v = (W6.setRow (N1) (zb 512 (fl 64 (tmP n m d (pwS n m d F j) F)))) ∧ Blk v (w.heap.size) 64 24 (m) ∧ Blk v (w.heap.size + 1) 512 26 (fl 64 F) ∧ Blk v (w.heap.size + 1 + 1) 512 26 (fl 64 (fun _ _ => 0)) ∧ Blk v (N1) 512 26 (fl 64 (tmP n m d (pwS n m d F j) F)) ∧ Blk v (N2) 512 26 (fl 64 (tmP n m d (pwS n m d F j) F)) ∧ Below w.heap.size w v := ⟨_, rfl, (B0.rowOther (by omega)), (B1.rowOther (by omega)), (B2.rowOther (by omega)), (B3.row (fl 64 (tmP n m d (pwS n m d F j) F))), (B4.rowOther (by omega)), (zr hb (by omega) _)⟩
                rw [← hwo]
                clear hwo B0 B1 B2 B3 B4 hb
                obtain ⟨B0, B1, B2, B3, B4, hb⟩ := hzQ
                try simp only [Act.put, pA, pB, pC]
                obtain ⟨i, rfl⟩ : ∃ q, i = q + 1 := ⟨i - 1, by omega⟩
                go_wp2_with fail
                go_roundw
                case rel => exact ⟨i, j + 1, by go_num, by have := Hij.out; omega, by omega, by omega, hb, B0, B1, B2, by rw [HS.out]; exact B3⟩
                case measure => simp [intOf] <;> omega
              · obtain rfl : i = 1 := by omega
                obtain rfl : j = K := by omega
                go_upto_region 20 with (fail)
                have lt_B0 := B0.lt
                have lt_B1 := B1.lt
                have lt_B2 := B2.lt
                have lt_B3 := B3.lt
                go_wp2_with (first | rw [← z64] | rw [← zero512] | (refine zla (.tmp 12) B3 Try.underlying26 Try.size26 ?_) | (refine zsr (.tmp 8) (.tmp 69) (fl 64 (pwS n m d F j)) B2 Try.size26 ?_; try simp only [Act.put]; go_wp2_with fail))
                obtain ⟨W5, hwo, hzQ⟩ : ∃ v : World, v = (wr.setRow (w.heap.size + 1 + 1) (zb 512 (fl 64 (pwS n m d F j)))) ∧ Blk v (w.heap.size) 64 24 (m) ∧ Blk v (w.heap.size + 1) 512 26 (fl 64 F) ∧ Blk v (w.heap.size + 1 + 1) 512 26 (fl 64 (pwS n m d F j)) ∧ Blk v (N1) 512 26 (fl 64 (pwS n m d F j)) ∧ Below w.heap.size w v := ⟨_, rfl, (B0.rowOther (by omega)), (B1.rowOther (by omega)), (B2.row (fl 64 (pwS n m d F j))), (B3.rowOther (by omega)), (zr hb (by omega) _)⟩
                rw [← hwo]
                clear hwo B0 B1 B2 B3 hb
                obtain ⟨B0, B1, B2, B3, hb⟩ := hzQ
                try simp only [Act.put, pA, pB, pC]
                refine bodyPost_ret (zrt rfl _ _ _ 512 _ _ rfl B2 _ Try.underlying26 rfl Try.size26) rfl ⟨by first | (rw [HV.out]; rfl) | rw [HV.out], hb⟩
           · have HV := Lib.hid (poV_3 hc hk hfit)
             have hfitI : skD F * (K : Int) > 7 := by omega
             have HIN := Lib.hid (show ∀ W, Calls Try.prog 81 #[.int .i64 (K : Int), .int .i64 0, .int .i64 1000] W fun e w' => e = .returned (.bool true) ∧ W = w' from fun W => by have h := l01In_any (K : Int) 0 1000 W; rwa [show decide ((0 : Int) ≤ (K : Int) ∧ (K : Int) ≤ 1000) = true by first | (simp; done) | (simp; omega)] at h)
             go_upto_region 4 with (first | (refine zla (.tmp 5) B0 Try.underlying24 Try.size24 ?_) | (refine zla (.tmp 6) B1 Try.underlying26 Try.size26 ?_) | (refine zbk rfl 159 _ [F] rfl 26 Try.underlying159 Try.elem26 (by simp) (by simp) rfl ?_; intro wa hps hba) | (go_at_call 79; refine (l03Code_any _ m hm [F] (by simp [hF]) (by simp) _ _ hps).mono ?_; rintro e W2 ⟨rfl, hbb⟩; rw [hc]))
             have hBB : Below W1.heap.size W1 W2 := hba.trans (hbb.mono hba.size)
             replace B0 := B0.zw hBB
             replace B1 := B1.zw hBB
             replace B2 := B2.zw hBB
             replace hb := hb.trans (hBB.mono hb.size)
             clear hBB hba hbb hps
             clear hc hfit hk
             go_upto_region 5 with (first | (refine zla (.tmp 6) B1 Try.underlying26 Try.size26 ?_) | (go_at_call 80; refine (l03Deg_any F _).mono ?_; rintro e W3 ⟨rfl, hW3⟩; replace B0 := B0.zw hW3; replace B1 := B1.zw hW3; replace B2 := B2.zw hW3; replace hb := (hb).trans (hW3.mono (hb).size)))
             go_upto_region 7 with (first | (go_at_call 81; refine (HIN.out _).mono ?_; rintro e wS ⟨rfl, rfl⟩))
             go_upto_region 14 with (fail)
             have lt_B0 := B0.lt
             have lt_B1 := B1.lt
             have lt_B2 := B2.lt
             go_wp2_with (first | rw [← z64] | rw [← zero512] | (refine zsr (.tmp 8) (.tmp 54) (fl 64 (fun _ _ => 0)) B2 Try.size26 ?_; try simp only [Act.put]; go_wp2_with fail))
             obtain ⟨W4, hwo, hzQ⟩ : ∃ v : World, v = (W3.setRow (w.heap.size + 1 + 1) (zb 512 (fl 64 (fun _ _ => 0)))) ∧ Blk v (w.heap.size) 64 24 (m) ∧ Blk v (w.heap.size + 1) 512 26 (fl 64 F) ∧ Blk v (w.heap.size + 1 + 1) 512 26 (fl 64 (fun _ _ => 0)) ∧ Below w.heap.size w v := ⟨_, rfl, (B0.rowOther (by omega)), (B1.rowOther (by omega)), (B2.row (fl 64 (fun _ _ => 0))), (zr hb (by omega) _)⟩
             rw [← hwo]
             clear hwo B0 B1 B2 hb
             obtain ⟨B0, B1, B2, hb⟩ := hzQ
             try simp only [Act.put, pA, pB, pC]
             refine bodyPost_ret (zrt rfl _ _ _ 512 _ _ rfl B2 _ Try.underlying26 rfl Try.size26) rfl ⟨by first | (rw [HV.out]; rfl) | rw [HV.out], hb⟩
 · have HV := Lib.hid (poV_1 (k := k) hc)
   go_upto_region 3 with (first | (refine zla (.tmp 5) B0 Try.underlying24 Try.size24 ?_) | (refine zla (.tmp 6) B1 Try.underlying26 Try.size26 ?_) | (refine zbk rfl 159 _ [F] rfl 26 Try.underlying159 Try.elem26 (by simp) (by simp) rfl ?_; intro wa hps hba) | (go_at_call 79; refine (l03Code_any _ m hm [F] (by simp [hF]) (by simp) _ _ hps).mono ?_; rintro e W2 ⟨rfl, hbb⟩; rw [hc]))
   have hBB : Below W1.heap.size W1 W2 := hba.trans (hbb.mono hba.size)
   replace B0 := B0.zw hBB
   replace B1 := B1.zw hBB
   replace B2 := B2.zw hBB
   replace hb := hb.trans (hBB.mono hb.size)
   clear hBB hba hbb hps
   clear hc
   have lt_B0 := B0.lt
   have lt_B1 := B1.lt
   have lt_B2 := B2.lt
   go_wp2_with (first | rw [← z64] | rw [← zero512] | (refine zsr (.tmp 8) (.tmp 22) (fl 64 (fun _ _ => 0)) B2 Try.size26 ?_; try simp only [Act.put]; go_wp2_with fail))
   obtain ⟨W3, hwo, hzQ⟩ : ∃ v : World, v = (W2.setRow (w.heap.size + 1 + 1) (zb 512 (fl 64 (fun _ _ => 0)))) ∧ Blk v (w.heap.size) 64 24 (m) ∧ Blk v (w.heap.size + 1) 512 26 (fl 64 F) ∧ Blk v (w.heap.size + 1 + 1) 512 26 (fl 64 (fun _ _ => 0)) ∧ Below w.heap.size w v := ⟨_, rfl, (B0.rowOther (by omega)), (B1.rowOther (by omega)), (B2.row (fl 64 (fun _ _ => 0))), (zr hb (by omega) _)⟩
   rw [← hwo]
   clear hwo B0 B1 B2 hb
   obtain ⟨B0, B1, B2, hb⟩ := hzQ
   try simp only [Act.put, pA, pB, pC]
   refine bodyPost_ret (zrt rfl _ _ _ 512 _ _ rfl B2 _ Try.underlying26 rfl Try.size26) rfl ⟨by first | (rw [HV.out]; rfl) | rw [HV.out], hb⟩
end Go.Proofs.Ytdlojnmggogbaaa
end
section
namespace Go.Proofs.Ytdlojnmggogbaaa
open Go Go.RowKit
set_option linter.unusedVariables false
set_option linter.unusedSimpArgs false
set_option maxRecDepth 100000 in
set_option maxHeartbeats 1600000 in
theorem FnExactPowerOfSkew_walk (p : Int) (m : Nat → Nat) (F : Nat → Nat → Nat) (k : Int) (hm : byte m) (hF : ∀ i, byte (F i)) (w : World) :
 Calls Try.prog 3 #[.int .i64 p, .agg (zb 64 m), .agg (zb 512 (fl 64 F)), .int .i64 k] w fun e w' => e = .returned (.bool true) ∧ Below w.heap.size w w' := by
 go_enter Try.func3, Try.ntmps3
 go_upto_region 1 with (fail)
 obtain ⟨W1, hwo⟩ : ∃ v : World, v = ((w.alloc (.cells (zb 64 (m)) 22)).alloc (.cells (zb 512 (fl 64 F)) 23)) := ⟨_, rfl⟩
 have B0 : Blk W1 (w.heap.size) 64 22 (m) := by subst hwo; have := ((Blk.new w 64 22 (m)).alloc (.cells (zb 512 (fl 64 F)) 23)); simpa using this
 have B1 : Blk W1 (w.heap.size + 1) 512 23 (fl 64 F) := by subst hwo; have := (Blk.new (w.alloc (.cells (zb 64 (m)) 22)) 512 23 (fl 64 F)); simpa using this
 have hb : Below w.heap.size w W1 := by subst hwo; exact (((Below.refl _ _).alloc (Nat.le_refl _) _).alloc (by simp) _)
 rw [← hwo]
 clear hwo
 have hne1 : (((poV p m F k).2) != ((poV p m F k).2)) = false := by simp
 have lt_B0 : (w.heap.size) < W1.heap.size := B0.lt
 have lt_B1 : (w.heap.size + 1) < W1.heap.size := B1.lt
 have hbase : w.heap.size ≤ W1.heap.size := hb.size
 refine zq Try.mixed (by kernel_rfl) (by kernel_rfl) (fun v => by (simp only [frL, Act.put, pA, pB, pC, Nat.reduceAdd, Nat.zero_add]; exact rfl))
  (fun L v W2 => Below w.heap.size w W2 ∧ W1.heap.size ≤ W2.heap.size ∧ Blk W2 (w.heap.size) 64 22 (m) ∧ Blk W2 (w.heap.size + 1) 512 23 (fl 64 F) ∧ (L 10 = true → AF (v 10) W2 W1.heap.size 512 26) ∧ (L 11 = true → PF (v 10) W2 W1.heap.size 512 26 (fl 64 ((poV p m F k).1))) ∧ VF L v [some (.int .i64 p), some (.agg (zb 64 (m))), some (.agg (zb 64 (m))), some (.agg (zb 512 (fl 64 F))), some (.agg (zb 512 (fl 64 F))), some (.int .i64 k), some (.tuple #[(.agg (zb 512 (fl 64 ((poV p m F k).1)))), (.int .i64 ((poV p m F k).2))]), some (.tuple #[(.agg (zb 512 (fl 64 ((poV p m F k).1)))), (.int .i64 ((poV p m F k).2))]), some (.agg (zb 512 (fl 64 ((poV p m F k).1)))), some (.int .i64 ((poV p m F k).2)), none, none, some (.int .i64 ((poV p m F k).2))]) ?_ ?_ ?_
 · intro v hv0
   exact ⟨hb.drew, Nat.le_refl _, B0.drew, B1.drew, (fun h => by cases h), (fun h => by cases h), VF.start⟩
 · refine (.cons rfl ?_ (.cons rfl ?_ (.cons rfl ?_ (.cons rfl ?_ (.cons rfl ?_ (.cons rfl ?_ (.cons rfl ?_ (.cons rfl ?_ (.cons rfl ?_ (.cons rfl ?_ (.cons rfl ?_ (.cons rfl ?_ (.cons rfl ?_ (.nil _))))))))))))))
   all_goals intro L v W2 hd hn ⟨hB, hz, s0, s1, h10, h11, V⟩ K hK
   · go_wp2_with fail
     exact hK _ (.int .i64 p) _ (by simp only [Act.put, pA, pB, pC ]) ⟨hB, hz, s0, s1, h10, h11, V.step 0 rfl⟩
   · refine zlc s0 Try.underlying22 Try.size22 ?_
     exact hK _ _ _ rfl ⟨hB, hz, s0, s1, h10, h11, V.step 1 rfl⟩
   · have e1 := V.at (zdq hd 1 rfl) rfl
     go_wp2_with (go_at_call 24; refine (toPoly_any m hm _).mono ?_; rintro e wy ⟨rfl, hy⟩)
     exact hK _ (.agg (zb 64 (m))) _ (by simp only [Act.put, pA, pB, pC, e1]) ⟨hB.trans (hy.mono hB.size), (Nat.le_trans hz hy.size), s0.zw hy, s1.zw hy, (fun h => (h10 h).below hy), (fun h => (h11 h).below hy), V.step 2 rfl⟩
   · refine zlc s1 Try.underlying23 Try.size23 ?_
     exact hK _ _ _ rfl ⟨hB, hz, s0, s1, h10, h11, V.step 3 rfl⟩
   · have e3 := V.at (zdq hd 3 rfl) rfl
     go_wp2_with (go_at_call 25; refine (toSkew_any F hF _).mono ?_; rintro e wy ⟨rfl, hy⟩)
     exact hK _ (.agg (zb 512 (fl 64 F))) _ (by simp only [Act.put, pA, pB, pC, e3]) ⟨hB.trans (hy.mono hB.size), (Nat.le_trans hz hy.size), s0.zw hy, s1.zw hy, (fun h => (h10 h).below hy), (fun h => (h11 h).below hy), V.step 4 rfl⟩
   · go_wp2_with fail
     exact hK _ (.int .i64 k) _ (by simp only [Act.put, pA, pB, pC ]) ⟨hB, hz, s0, s1, h10, h11, V.step 5 rfl⟩
   · have e0 := V.at (zdq hd 0 rfl) rfl
     have e2 := V.at (zdq hd 2 rfl) rfl
     have e4 := V.at (zdq hd 4 rfl) rfl
     have e5 := V.at (zdq hd 5 rfl) rfl
     go_wp2_with (go_at_call 23; refine (spec_PowerOfSkew_any p m F k hm hF _).mono ?_; rintro e wy ⟨rfl, hy⟩)
     exact hK _ (.tuple #[(.agg (zb 512 (fl 64 ((poV p m F k).1)))), (.int .i64 ((poV p m F k).2))]) _ (by simp only [Act.put, pA, pB, pC, e0, e2, e4, e5]) ⟨hB.trans (hy.mono hB.size), (Nat.le_trans hz hy.size), s0.zw hy, s1.zw hy, (fun h => (h10 h).below hy), (fun h => (h11 h).below hy), V.step 6 rfl⟩
   · have e6 := V.at (zdq hd 6 rfl) rfl
     go_wp2_with fail
     exact hK _ (.tuple #[(.agg (zb 512 (fl 64 ((poV p m F k).1)))), (.int .i64 ((poV p m F k).2))]) _ (by simp only [Act.put, pA, pB, pC, e6]) ⟨hB, hz, s0, s1, h10, h11, V.step 7 rfl⟩
   · have e7 := V.at (zdq hd 7 rfl) rfl
     go_wp2_with fail
     exact hK _ (.agg (zb 512 (fl 64 ((poV p m F k).1)))) _ (by simp only [Act.put, pA, pB, pC, e7]) ⟨hB, hz, s0, s1, h10, h11, V.step 8 rfl⟩
   · have e7 := V.at (zdq hd 7 rfl) rfl
     go_wp2_with fail
     exact hK _ (.int .i64 ((poV p m F k).2)) _ (by simp only [Act.put, pA, pB, pC, e7]) ⟨hB, hz, s0, s1, h10, h11, V.step 9 rfl⟩
   · go_wp2_with fail
     rw [← zero512]
     exact hK _ (.pointer (some ⟨W2.heap.size, 0, none⟩)) _ (by simp only [Act.put, pA, pB, pC ]) ⟨hB.alloc hB.size _, (by simp; omega), (s0).alloc _, (s1).alloc _, (fun _ => (PF.new W2 512 26 _ hz).af), (fun h => absurd rfl (hn 11 _ rfl h ⟨10, .data⟩ (by simp) rfl)), V.skip 10 rfl⟩
   · have e8 := V.at (zdq hd 8 rfl) rfl
     obtain ⟨gz, b, ea, hN, hk⟩ := (h10 (zdq hd 10 rfl)).out
     refine zsb 26 _ _ rfl b 512 (fl 64 ((poV p m F k).1)) ea e8 26 gz hk Try.size26 ?_
     exact hK _ undef _ rfl ⟨zr hB (Nat.le_trans hbase hN) _, (by simpa [World.setRow] using hz), (s0).rowOther (by omega), (s1).rowOther (by omega), (fun h => (h10 h).row hk), (fun _ => by rw [show updV v 11 undef 10 = v 10 from rfl, ea]; exact PF.row hk hN _), V.skip 11 rfl⟩
   · have e9 := V.at (zdq hd 9 rfl) rfl
     go_wp2_with fail
     exact hK _ (.int .i64 ((poV p m F k).2)) _ (by simp only [Act.put, pA, pB, pC, e9]) ⟨hB, hz, s0, s1, h10, h11, V.step 12 rfl⟩
 · intro L v W2 hL ⟨hB, hz, s0, s1, h10, h11, V⟩
   obtain ⟨k1_10, e10, hNk1_10, hk1_10⟩ := (h11 (hL 11 (by decide))).out
   have e0 := V.at (hL 0 (by decide)) rfl
   have e1 := V.at (hL 1 (by decide)) rfl
   have e2 := V.at (hL 2 (by decide)) rfl
   have e3 := V.at (hL 3 (by decide)) rfl
   have e4 := V.at (hL 4 (by decide)) rfl
   have e5 := V.at (hL 5 (by decide)) rfl
   have e6 := V.at (hL 6 (by decide)) rfl
   have e7 := V.at (hL 7 (by decide)) rfl
   have e8 := V.at (hL 8 (by decide)) rfl
   have e9 := V.at (hL 9 (by decide)) rfl
   have e12 := V.at (hL 12 (by decide)) rfl
   clear hL h10 h11 V
   simp only [Exit.then, e10, e0, e1, e2, e3, e4, e5, e6, e7, e8, e9, e12]
   clear e10 e0 e1 e2 e3 e4 e5 e6 e7 e8 e9 e12
   replace B0 := s0
   clear s0
   replace B1 := s1
   clear s1
   replace hb := hB
   clear hB
   have B2 := hk1_10
   clear hk1_10
   have zk1_10_0 : w.heap.size < k1_10 := by omega
   have zk1_10_1 : w.heap.size + 1 < k1_10 := by omega
   clear hbase hz lt_B0 lt_B1
   go_upto_region 2 with (fail)
   have lt_B0 : (w.heap.size) < W2.heap.size := B0.lt
   have lt_B1 : (w.heap.size + 1) < W2.heap.size := B1.lt
   have lt_B2 : (k1_10) < W2.heap.size := B2.lt
   have hbase : w.heap.size ≤ W2.heap.size := hb.size
   refine zq Try.mixed (by kernel_rfl) (by kernel_rfl) (fun v => by (simp only [frL, Act.put, pA, pB, pC, Nat.reduceAdd, Nat.zero_add]; exact rfl))
    (fun L v W3 => Below w.heap.size w W3 ∧ W2.heap.size ≤ W3.heap.size ∧ Blk W3 (w.heap.size) 64 22 (m) ∧ Blk W3 (w.heap.size + 1) 512 23 (fl 64 F) ∧ Blk W3 (k1_10) 512 26 (fl 64 ((poV p m F k).1)) ∧ (L 10 = true → AF (v 10) W3 W2.heap.size 512 26) ∧ (L 11 = true → PF (v 10) W3 W2.heap.size 512 26 (fl 64 ((poV p m F k).1))) ∧ VF L v [some (.int .i64 p), some (.agg (zb 64 (m))), some (.agg (zb 64 (m))), some (.agg (zb 512 (fl 64 F))), some (.agg (zb 512 (fl 64 F))), some (.int .i64 k), some (.tuple #[(.agg (zb 512 (fl 64 ((poV p m F k).1)))), (.int .i64 ((poV p m F k).2))]), some (.tuple #[(.agg (zb 512 (fl 64 ((poV p m F k).1)))), (.int .i64 ((poV p m F k).2))]), some (.agg (zb 512 (fl 64 ((poV p m F k).1)))), some (.int .i64 ((poV p m F k).2)), none, none, some (.int .i64 ((poV p m F k).2))]) ?_ ?_ ?_
   · intro v hv0
     exact ⟨hb.drew, Nat.le_refl _, B0.drew, B1.drew, B2.drew, (fun h => by cases h), (fun h => by cases h), VF.start⟩
   · refine (.cons rfl ?_ (.cons rfl ?_ (.cons rfl ?_ (.cons rfl ?_ (.cons rfl ?_ (.cons rfl ?_ (.cons rfl ?_ (.cons rfl ?_ (.cons rfl ?_ (.cons rfl ?_ (.cons rfl ?_ (.cons rfl ?_ (.cons rfl ?_ (.nil _))))))))))))))
     all_goals intro L v W3 hd hn ⟨hB, hz, s0, s1, s2, h10, h11, V⟩ K hK
     · go_wp2_with fail
       exact hK _ (.int .i64 p) _ (by simp only [Act.put, pA, pB, pC ]) ⟨hB, hz, s0, s1, s2, h10, h11, V.step 0 rfl⟩
     · refine zlc s0 Try.underlying22 Try.size22 ?_
       exact hK _ _ _ rfl ⟨hB, hz, s0, s1, s2, h10, h11, V.step 1 rfl⟩
     · have e1 := V.at (zdq hd 1 rfl) rfl
       go_wp2_with (go_at_call 24; refine (toPoly_any m hm _).mono ?_; rintro e wy ⟨rfl, hy⟩)
       exact hK _ (.agg (zb 64 (m))) _ (by simp only [Act.put, pA, pB, pC, e1]) ⟨hB.trans (hy.mono hB.size), (Nat.le_trans hz hy.size), s0.zw hy, s1.zw hy, s2.zw hy, (fun h => (h10 h).below hy), (fun h => (h11 h).below hy), V.step 2 rfl⟩
     · refine zlc s1 Try.underlying23 Try.size23 ?_
       exact hK _ _ _ rfl ⟨hB, hz, s0, s1, s2, h10, h11, V.step 3 rfl⟩
     · have e3 := V.at (zdq hd 3 rfl) rfl
       go_wp2_with (go_at_call 25; refine (toSkew_any F hF _).mono ?_; rintro e wy ⟨rfl, hy⟩)
       exact hK _ (.agg (zb 512 (fl 64 F))) _ (by simp only [Act.put, pA, pB, pC, e3]) ⟨hB.trans (hy.mono hB.size), (Nat.le_trans hz hy.size), s0.zw hy, s1.zw hy, s2.zw hy, (fun h => (h10 h).below hy), (fun h => (h11 h).below hy), V.step 4 rfl⟩
     · go_wp2_with fail
       exact hK _ (.int .i64 k) _ (by simp only [Act.put, pA, pB, pC ]) ⟨hB, hz, s0, s1, s2, h10, h11, V.step 5 rfl⟩
     · have e0 := V.at (zdq hd 0 rfl) rfl
       have e2 := V.at (zdq hd 2 rfl) rfl
       have e4 := V.at (zdq hd 4 rfl) rfl
       have e5 := V.at (zdq hd 5 rfl) rfl
       go_wp2_with (go_at_call 26; refine (impl_PowerOfSkew_any p m F k hm hF _).mono ?_; rintro e wy ⟨rfl, hy⟩)
       exact hK _ (.tuple #[(.agg (zb 512 (fl 64 ((poV p m F k).1)))), (.int .i64 ((poV p m F k).2))]) _ (by simp only [Act.put, pA, pB, pC, e0, e2, e4, e5]) ⟨hB.trans (hy.mono hB.size), (Nat.le_trans hz hy.size), s0.zw hy, s1.zw hy, s2.zw hy, (fun h => (h10 h).below hy), (fun h => (h11 h).below hy), V.step 6 rfl⟩
     · have e6 := V.at (zdq hd 6 rfl) rfl
       go_wp2_with fail
       exact hK _ (.tuple #[(.agg (zb 512 (fl 64 ((poV p m F k).1)))), (.int .i64 ((poV p m F k).2))]) _ (by simp only [Act.put, pA, pB, pC, e6]) ⟨hB, hz, s0, s1, s2, h10, h11, V.step 7 rfl⟩
     · have e7 := V.at (zdq hd 7 rfl) rfl
       go_wp2_with fail
       exact hK _ (.agg (zb 512 (fl 64 ((poV p m F k).1)))) _ (by simp only [Act.put, pA, pB, pC, e7]) ⟨hB, hz, s0, s1, s2, h10, h11, V.step 8 rfl⟩
     · have e7 := V.at (zdq hd 7 rfl) rfl
       go_wp2_with fail
       exact hK _ (.int .i64 ((poV p m F k).2)) _ (by simp only [Act.put, pA, pB, pC, e7]) ⟨hB, hz, s0, s1, s2, h10, h11, V.step 9 rfl⟩
     · go_wp2_with fail
       rw [← zero512]
       exact hK _ (.pointer (some ⟨W3.heap.size, 0, none⟩)) _ (by simp only [Act.put, pA, pB, pC ]) ⟨hB.alloc hB.size _, (by simp; omega), (s0).alloc _, (s1).alloc _, (s2).alloc _, (fun _ => (PF.new W3 512 26 _ hz).af), (fun h => absurd rfl (hn 11 _ rfl h ⟨10, .data⟩ (by simp) rfl)), V.skip 10 rfl⟩
     · have e8 := V.at (zdq hd 8 rfl) rfl
       obtain ⟨gz, b, ea, hN, hk⟩ := (h10 (zdq hd 10 rfl)).out
       refine zsb 26 _ _ rfl b 512 (fl 64 ((poV p m F k).1)) ea e8 26 gz hk Try.size26 ?_
       exact hK _ undef _ rfl ⟨zr hB (Nat.le_trans hbase hN) _, (by simpa [World.setRow] using hz), (s0).rowOther (by omega), (s1).rowOther (by omega), (s2).rowOther (by omega), (fun h => (h10 h).row hk), (fun _ => by rw [show updV v 11 undef 10 = v 10 from rfl, ea]; exact PF.row hk hN _), V.skip 11 rfl⟩
     · have e9 := V.at (zdq hd 9 rfl) rfl
       go_wp2_with fail
       exact hK _ (.int .i64 ((poV p m F k).2)) _ (by simp only [Act.put, pA, pB, pC, e9]) ⟨hB, hz, s0, s1, s2, h10, h11, V.step 12 rfl⟩
   · intro L v W3 hL ⟨hB, hz, s0, s1, s2, h10, h11, V⟩
     obtain ⟨k2_10, e10, hNk2_10, hk2_10⟩ := (h11 (hL 11 (by decide))).out
     have e0 := V.at (hL 0 (by decide)) rfl
     have e1 := V.at (hL 1 (by decide)) rfl
     have e2 := V.at (hL 2 (by decide)) rfl
     have e3 := V.at (hL 3 (by decide)) rfl
     have e4 := V.at (hL 4 (by decide)) rfl
     have e5 := V.at (hL 5 (by decide)) rfl
     have e6 := V.at (hL 6 (by decide)) rfl
     have e7 := V.at (hL 7 (by decide)) rfl
     have e8 := V.at (hL 8 (by decide)) rfl
     have e9 := V.at (hL 9 (by decide)) rfl
     have e12 := V.at (hL 12 (by decide)) rfl
     clear hL h10 h11 V
     simp only [Exit.then, e10, e0, e1, e2, e3, e4, e5, e6, e7, e8, e9, e12]
     clear e10 e0 e1 e2 e3 e4 e5 e6 e7 e8 e9 e12
     replace B0 := s0
     clear s0
     replace B1 := s1
     clear s1
     replace B2 := s2
     clear s2
     replace hb := hB
     clear hB
     have B3 := hk2_10
     clear hk2_10
     have zk2_10_0 : w.heap.size < k2_10 := by omega
     have zk2_10_1 : w.heap.size + 1 < k2_10 := by omega
     have zk2_10_2 : k1_10 < k2_10 := by omega
     clear hbase hz lt_B0 lt_B1 lt_B2
     go_upto_region 3 with (fail)
     go_wp2_with (first | (refine zla (.tmp 11) B3 Try.underlying26 Try.size26 ?_) | (refine zla (.tmp 9) B2 Try.underlying26 Try.size26 ?_) | (go_at_call 27; refine (eqSkew_same _ _ (fun _ _ _ _ => rfl) _).mono ?_; rintro e W4 ⟨rfl, hW4⟩; replace B0 := B0.zw hW4; replace B1 := B1.zw hW4; replace B2 := B2.zw hW4; replace B3 := B3.zw hW4; replace hb := (hb).trans (hW4.mono (hb).size)))
     go_ret
     exact ⟨rfl, hb⟩
end Go.Proofs.Ytdlojnmggogbaaa
end
section
namespace Go.Proofs.Ytdlojnmggogbaaa
open Go.ChangeShapes Go.WideShapes Go.ChangeAt Go.RowKit
section
variable {H : Type} {enc : TypeId × Value → H} {P : Program}
theorem trod_int_to {e : TypeId} {k : IntKind} (he : P.underlying e = some (.int k)) {w : World} (w' : World) {b : Nat} (b' : Nat) {s : Nat → Bool} (s' : Nat → Bool) {h : Bool} (h' : Bool) {m : Nat} {c : List Value} {x : DataW H × List MemPlace}
 (hx : DataW.trod enc P w b s h m e c = some x) : DataW.trod enc P w' b' s' h' m e c = some x := by
 cases m with
 | zero => simp [DataW.trod] at hx
 | succ m =>
  obtain ⟨n, rfl, rfl, hw⟩ := DataW.trod_int he hx
  unfold DataW.trod
  rw [he]
  simp [hw]
theorem trod_int_same {e : TypeId} {k : IntKind} (he : P.underlying e = some (.int k)) (w w' : World) (b b' : Nat) (s s' : Nat → Bool) (h h' : Bool) (m : Nat) (c : List Value) :
 DataW.trod enc P w b s h m e c = DataW.trod enc P w' b' s' h' m e c := by
 cases h1 : DataW.trod enc P w b s h m e c with
 | some x => rw [trod_int_to he w' b' s' h' h1]
 | none =>
  cases h2 : DataW.trod enc P w' b' s' h' m e c with
  | none => rfl
  | some x => rw [trod_int_to he w b s h h2] at h1; cases h1
theorem open_barr {t e : TypeId} {n : Nat} {w : World} {r : Reach} {b0 base : Nat} {spare : Nat → Bool} {held : Bool} {v : Value} {d : DataW H} {p : List MemPlace}
 (ht : P.underlying t = some (.array n e)) (he : P.underlying e = some (.int .u8)) (hC : P.cellsOf t = n) (hCe : P.cellsOf e = 1)
 (hv : Value.okWide P w r b0 t v) (h : DataW.Trod enc P w base spare held t v d p) :
 ∃ f : Nat → Nat, byte f ∧ v = .agg (zb n f) ∧ p = [] ∧ ∀ (w' : World) (base' : Nat) (spare' : Nat → Bool) (held' : Bool), DataW.Trod enc P w' base' spare' held' t v d [] := by
 unfold Value.okWide at hv
 rw [ht] at hv
 obtain ⟨cs, rfl, hsz, _⟩ := hv
 obtain ⟨fuel, hf⟩ := h
 obtain ⟨xs, m, hm, hx, hlen, hxl, hel⟩ := DataW.trod_array ht hf
 subst hm
 have hcs : cs.size = n := by rw [hsz, hC]
 have each : ∀ i, i < n → ∃ k : Nat, k < 256 ∧ cs[i]? = some (.int .u8 (k : Int)) ∧ xs[i]? = some (.lit (.int .u8 (k : Int)), []) := by
  intro i hi
  have h1 := hel i hi
  have hxi : xs[i]? = some (xs[i]'(by omega)) := List.getElem?_eq_getElem (by omega)
  rw [hxi, hCe] at h1
  obtain ⟨z, hz1, hz2, hz3⟩ := DataW.trod_int he h1
  have hb := bounds_u8 hz3
  obtain ⟨k, rfl⟩ := Int.eq_ofNat_of_zero_le hb.1
  refine ⟨k, by omega, ?_, by rw [hxi, hz2]⟩
  have h2 : ((cs.toList.drop (i * 1)).take 1)[0]? = some (.int .u8 (k : Int)) := by
   have h3 : (Value.agg cs).cells.toList = cs.toList := rfl
   rw [← h3, hz1]; rfl
  simpa using h2
 refine ⟨fun i => match cs[i]? with | some (.int _ z) => if i < n then z.toNat else 0 | _ => 0, ?_, ?_, ?_, ?_⟩
 · intro i
   by_cases hi : i < n
   · obtain ⟨k, hk, hc, _⟩ := each i hi
     simp only [hc, hi, if_true, Int.toNat_natCast]
     exact hk
   · have : cs[i]? = none := Array.getElem?_eq_none (by omega)
     simp [this]
 · congr 1
   apply Array.ext_getElem?
   intro i
   by_cases hi : i < n
   · obtain ⟨k, hk, hc, _⟩ := each i hi
     rw [bcells_get hi]
     simp only [hc, hi, if_true, Int.toNat_natCast]
   · rw [Array.getElem?_eq_none (by omega), Array.getElem?_eq_none (by rw [zbs]; omega)]
 · have hp : p = xs.flatMap (·.2) := by simpa using congrArg Prod.snd hx
   rw [hp]
   rw [List.flatMap_eq_nil_iff]
   intro x hxm
   obtain ⟨i, hi⟩ := List.getElem?_of_mem hxm
   have hin : i < n := by rw [← hxl]; exact (List.getElem?_eq_some_iff.1 hi).1
   obtain ⟨k, _, _, h2⟩ := each i hin
   rw [hi] at h2
   injection h2 with h2
   rw [h2]
 · intro w' base' spare' held'
   refine ⟨m + 1, ?_⟩
   have e1 : DataW.trod enc P w' base' spare' held' (m + 1) t (Value.agg cs).cells.toList = DataW.trod enc P w base spare held (m + 1) t (Value.agg cs).cells.toList := by
    unfold DataW.trod
    rw [ht]
    simp only [trod_int_same he w' w base' base spare' spare held' held m]
   rw [e1, hf]
   have hp : p = xs.flatMap (·.2) := by simpa using congrArg Prod.snd hx
   have : p = [] := by
    rw [hp, List.flatMap_eq_nil_iff]
    intro x hxm
    obtain ⟨i, hi⟩ := List.getElem?_of_mem hxm
    have hin : i < n := by rw [← hxl]; exact (List.getElem?_eq_some_iff.1 hi).1
    obtain ⟨k, _, _, h2⟩ := each i hin
    rw [hi] at h2
    injection h2 with h2
    rw [h2]
   rw [this]
/-- the row's last step where the call has only made new memory, and the row does not say 'again' -/
theorem post_of_below0 {f : Func} {s : ChangeSpec} {apart fresh handsOn : Bool} {W W' : World} {args : Array Value} {v : Value} {ds gs : List (DataW H)} {before pa pv : List MemPlace}
 (hW : DataW.Whole enc P f.params.toList s.vars apart W args.toList ds gs before)
 (hres : ∀ (b : Nat) (sp : Nat → Bool) (hd : Bool), DataW.TrodAll enc P W' b sp hd f.resultTypes.toList (v.resultList f.resultTypes.size) (s.fn H (ds ++ gs)).results [])
 (hargs : ∀ sp : Nat → Bool, (∀ p ∈ before, sp p.block = true) → DataW.TrodAll enc P W' 0 sp true f.params.toList args.toList (s.fn H (ds ++ gs)).args pa)
 (hvars : ∀ sp : Nat → Bool, (∀ p ∈ before, sp p.block = true) → DataW.TrodVars enc P W' sp s.vars (s.fn H (ds ++ gs)).vars pv)
 (hps : before = pa ++ pv) (hb : Below W.heap.size W W') : s.post enc P f apart fresh handsOn false W args v W' := by
 have held : ∀ p ∈ before, (fun b => decide (b < W.heap.size)) p.block = true := fun p hp => by simpa using hW.lt p hp
 refine ⟨ds, gs, before, [], pa, pv, hW, hres _ _ _, hargs _ held, hvars _ held, ?_, fun h => by cases h⟩
 refine World.keptBut_mono (fun p hp => ⟨hp, .inr ?_⟩) (hb.frame (· ∈ before))
 rw [hps, List.mem_append] at hp
 exact hp
end
end Go.Proofs.Ytdlojnmggogbaaa
end
section
namespace Go.Proofs.Ytdlojnmggogbaaa
open Go.ChangeShapes Go.WideShapes Go.ChangeAt Go.RowKit
set_option linter.unusedVariables false
theorem fl_whole (f : Nat → Nat) : fl 64 (fun i j => f (i * 64 + j)) = f := by
 funext k
 unfold fl
 show f (k / 64 * 64 + k % 64) = f k
 congr 1
 omega
section
variable {H : Type} {enc : TypeId × Value → H} {P : Program}
theorem trod_barr_same {e u n : Nat} {k : IntKind} (he : P.underlying e = some (.array n u)) (hu : P.underlying u = some (.int k)) (w w' : World) (b b' : Nat) (s s' : Nat → Bool) (h h' : Bool) (m : Nat) (c : List Value) :
 DataW.trod enc P w b s h m e c = DataW.trod enc P w' b' s' h' m e c := by
 cases m with
 | zero => simp [DataW.trod]
 | succ m =>
  unfold DataW.trod
  rw [he]
  simp only [trod_int_same hu w w' b b' s s' h h' m]
theorem open_bsk {t e u : TypeId} {w : World} {r : Reach} {b0 base : Nat} {spare : Nat → Bool} {held : Bool} {v : Value} {d : DataW H} {p : List MemPlace}
 (ht : P.underlying t = some (.array 8 e)) (he : P.underlying e = some (.array 64 u)) (hu : P.underlying u = some (.int .u8)) (hC : P.cellsOf t = 512) (hCe : P.cellsOf e = 64) (hCu : P.cellsOf u = 1)
 (hv : Value.okWide P w r b0 t v) (h : DataW.Trod enc P w base spare held t v d p) :
 ∃ F : Nat → Nat → Nat, (∀ i, byte (F i)) ∧ v = .agg (zb 512 (fl 64 F)) ∧ p = [] ∧ ∀ (w' : World) (base' : Nat) (spare' : Nat → Bool) (held' : Bool), DataW.Trod enc P w' base' spare' held' t v d [] := by
 unfold Value.okWide at hv
 rw [ht] at hv
 obtain ⟨cs, rfl, hsz, _⟩ := hv
 obtain ⟨fuel, hf⟩ := h
 obtain ⟨xs, m, hm, hx, hlen, hxl, hel⟩ := DataW.trod_array ht hf
 subst hm
 have hcs : cs.size = 512 := by rw [hsz, hC]
 have each : ∀ i, i < 8 → (∃ y, xs[i]? = some (y, [])) ∧ ∀ j, j < 64 → ∃ k : Nat, k < 256 ∧ cs[i * 64 + j]? = some (.int .u8 (k : Int)) := by
  intro i hi
  have h1 := hel i hi
  have hxi : xs[i]? = some (xs[i]'(by omega)) := List.getElem?_eq_getElem (by omega)
  rw [hxi, hCe] at h1
  obtain ⟨ys, m2, hm2, hx2, hlen2, hyl, hel2⟩ := DataW.trod_array he h1
  subst hm2
  have byt : ∀ j, j < 64 → ∃ k : Nat, k < 256 ∧ cs[i * 64 + j]? = some (.int .u8 (k : Int)) ∧ ys[j]? = some (.lit (.int .u8 (k : Int)), []) := by
   intro j hj
   have h3 := hel2 j hj
   have hyj : ys[j]? = some (ys[j]'(by omega)) := List.getElem?_eq_getElem (by omega)
   rw [hyj, hCu] at h3
   obtain ⟨z, hz1, hz2, hz3⟩ := DataW.trod_int hu h3
   have hb := bounds_u8 hz3
   obtain ⟨k, rfl⟩ := Int.eq_ofNat_of_zero_le hb.1
   refine ⟨k, by omega, ?_, by rw [hyj, hz2]⟩
   have h4 : (((((Value.agg cs).cells.toList.drop (i * 64)).take 64).drop (j * 1)).take 1)[0]? = some (.int .u8 (k : Int)) := by
    rw [hz1]; rfl
   have h5 : (Value.agg cs).cells.toList = cs.toList := rfl
   rw [h5] at h4
   simp only [List.getElem?_take, List.getElem?_drop, Nat.mul_one, Nat.add_zero, Nat.lt_add_one, if_true, hj] at h4
   simpa using h4
  refine ⟨⟨(xs[i]'(by omega)).1, ?_⟩, fun j hj => let ⟨k, a, b, _⟩ := byt j hj; ⟨k, a, b⟩⟩
  · rw [hxi]
    congr 1
    refine Prod.ext rfl ?_
    have hp : (xs[i]'(by omega)).2 = ys.flatMap (·.2) := by simpa using congrArg Prod.snd hx2
    show (xs[i]'(by omega)).2 = []
    rw [hp, List.flatMap_eq_nil_iff]
    intro x hxm
    obtain ⟨j, hj⟩ := List.getElem?_of_mem hxm
    have hjn : j < 64 := by rw [← hyl]; exact (List.getElem?_eq_some_iff.1 hj).1
    obtain ⟨k, _, _, h2⟩ := byt j hjn
    rw [hj] at h2
    injection h2 with h2
    rw [h2]
 have hp : p = [] := by
  have hp : p = xs.flatMap (·.2) := by simpa using congrArg Prod.snd hx
  rw [hp, List.flatMap_eq_nil_iff]
  intro x hxm
  obtain ⟨i, hi⟩ := List.getElem?_of_mem hxm
  have hin : i < 8 := by rw [← hxl]; exact (List.getElem?_eq_some_iff.1 hi).1
  obtain ⟨⟨y, h2⟩, _⟩ := each i hin
  rw [hi] at h2
  injection h2 with h2
  rw [h2]
 have cell : ∀ k, k < 512 → ∃ z : Nat, z < 256 ∧ cs[k]? = some (.int .u8 (z : Int)) := by
  intro k hk
  obtain ⟨z, a, b⟩ := (each (k / 64) (by omega)).2 (k % 64) (by omega)
  rw [show k / 64 * 64 + k % 64 = k by omega] at b
  exact ⟨z, a, b⟩
 obtain ⟨f, hf1, hf2⟩ : ∃ f : Nat → Nat, byte f ∧ (Value.agg cs) = .agg (zb 512 f) := by
  refine ⟨fun i => match cs[i]? with | some (.int _ z) => if i < 512 then z.toNat else 0 | _ => 0, ?_, ?_⟩
  · intro i
    by_cases hi : i < 512
    · obtain ⟨k, hk, hc⟩ := cell i hi
      simp only [hc, hi, if_true, Int.toNat_natCast]
      exact hk
    · have : cs[i]? = none := Array.getElem?_eq_none (by omega)
      simp [this]
  · congr 1
    apply Array.ext_getElem?
    intro i
    by_cases hi : i < 512
    · obtain ⟨k, hk, hc⟩ := cell i hi
      rw [bcells_get hi]
      simp only [hc, hi, if_true, Int.toNat_natCast]
    · rw [Array.getElem?_eq_none (by omega), Array.getElem?_eq_none (by rw [zbs]; omega)]
 refine ⟨fun i j => f (i * 64 + j), fun i j => hf1 _, ?_, hp, ?_⟩
 · rw [fl_whole]; exact hf2
 · intro w' base' spare' held'
   refine ⟨m + 1, ?_⟩
   have e1 : DataW.trod enc P w' base' spare' held' (m + 1) t (Value.agg cs).cells.toList = DataW.trod enc P w base spare held (m + 1) t (Value.agg cs).cells.toList := by
    unfold DataW.trod
    rw [ht]
    simp only [trod_barr_same he hu w' w base' base spare' spare held' held m]
   rw [e1, hf, hp]
end
end Go.Proofs.Ytdlojnmggogbaaa
end
section
namespace Go.Proofs.Ytdlojnmggogbaaa
open Go
def cutW : List Char := [Char.ofNat 99, Char.ofNat 117, Char.ofNat 116]
theorem strip_cut (rest : List (List Char)) : stripLifts liftWords (cutW :: rest) = ([], cutW :: rest) := by
 have key : ∀ os : List String, (os.all fun o => !(cutW == o.toList)) = true → stripLifts os (cutW :: rest) = ([], cutW :: rest) := by
  intro os
  induction os with
  | nil => intro _; rfl
  | cons o os ih =>
   intro h
   simp only [List.all_cons, Bool.and_eq_true, Bool.not_eq_true'] at h
   unfold stripLifts
   rw [h.1]
   exact ih h.2
 exact key _ (by decide +kernel)
theorem make_cut {P : Program} {rest : List (List Char)} (h : behindMainWord (wordsSigns P.initOrder.toList) = cutW :: rest) : P.make = some .cut := by
 unfold Program.make
 rw [h]
 have e1 : (cutW == "gc".toList || cutW == "spec".toList) = false := by decide +kernel
 have e2 : (cutW == "cut".toList) = true := by decide +kernel
 simp only [e1, e2, Bool.true_or]
 rfl
theorem mayEnter_cut {P : Program} {rest : List (List Char)} (h : behindMainWord (wordsSigns P.initOrder.toList) = cutW :: rest) (h1 : P.laysLater = false) (h2 : P.bearsReflect = false) (h3 : P.doorFits [] = true) : P.mayEnter = true := by
 unfold Program.mayEnter
 rw [h]
 have e2 : (some cutW == some "cut".toList) = true := by decide +kernel
 simp only [strip_cut, h1, h2, h3, List.head?_cons, e2]
 simp
theorem lifts_cut {P : Program} {rest : List (List Char)} (h : behindMainWord (wordsSigns P.initOrder.toList) = cutW :: rest) : P.liftsFinal = false := by
 unfold Program.liftsFinal Program.headLifts
 rw [h]
 have e2 : (some cutW == some "cut".toList) = true := by decide +kernel
 have e3 : (some cutW == some "carried".toList) = false := by decide +kernel
 simp only [strip_cut, List.head?_cons, e2, e3]
 simp
/-- the signs of the head, and its words behind the first three -/
def initSigns : List Nat := [104, 97, 114, 110, 101, 115, 115, 32, 98, 51, 52, 49, 102, 55, 100, 99, 49, 51, 99, 97, 49, 99, 98, 55, 53, 99, 49, 50, 97, 51, 54, 55, 50, 54, 98, 52, 100, 53, 50, 102, 99, 51, 52, 56, 56, 57, 49, 99, 50, 57, 99, 53, 55, 48, 50, 50, 97, 49, 97, 52, 56, 49, 99, 52, 53, 101, 97, 49, 53, 51, 54, 53, 32, 99, 117, 116, 32, 97, 116, 32, 108, 111, 111, 112, 46, 101, 120, 97, 109, 112, 108, 101, 47, 103, 48, 49, 50, 52, 53, 47, 108, 97, 119, 115, 46, 70, 110, 69, 120, 97, 99, 116, 80, 111, 119, 101, 114, 79, 102, 83, 107, 101, 119, 32, 108, 111, 111, 112, 46, 101, 120, 97, 109, 112, 108, 101, 47, 103, 48, 49, 50, 52, 53, 47, 108, 97, 119, 115, 46, 70, 110, 69, 120, 97, 99, 116, 68, 105, 118, 105, 100, 101, 82, 105, 103, 104, 116, 32, 108, 111, 111, 112, 46, 101, 120, 97, 109, 112, 108, 101, 47, 103, 48, 49, 50, 52, 53, 47, 108, 97, 119, 115, 46, 70, 110, 69, 120, 97, 99, 116, 68, 105, 118, 105, 100, 101, 76, 101, 102, 116, 32, 108, 111, 111, 112, 46, 101, 120, 97, 109, 112, 108, 101, 47, 103, 48, 49, 50, 52, 53, 47, 108, 97, 119, 115, 46, 70, 110, 69, 120, 97, 99, 116, 82, 105, 103, 104, 116, 68, 105, 118, 105, 115, 111, 114, 32, 108, 111, 111, 112, 46, 101, 120, 97, 109, 112, 108, 101, 47, 103, 48, 49, 50, 52, 53, 47, 108, 97, 119, 115, 46, 70, 110, 69, 120, 97, 99, 116, 76, 101, 102, 116, 77, 117, 108, 116, 105, 112, 108, 101, 32, 108, 111, 111, 112, 46, 101, 120, 97, 109, 112, 108, 101, 47, 103, 48, 49, 50, 52, 53, 47, 108, 97, 119, 115, 46, 70, 110, 69, 120, 97, 99, 116, 75, 101, 114, 110, 101, 108, 79, 102, 83, 107, 101, 119, 32, 108, 111, 111, 112, 46, 101, 120, 97, 109, 112, 108, 101, 47, 103, 48, 49, 50, 52, 53, 47, 108, 97, 119, 115, 46, 70, 110, 69, 120, 97, 99, 116, 76, 101, 97, 115, 116, 83, 107, 101, 119, 32, 108, 111, 111, 112, 46, 101, 120, 97, 109, 112, 108, 101, 47, 103, 48, 49, 50, 52, 53, 47, 108, 97, 119, 115, 46, 70, 110, 69, 120, 97, 99, 116, 67, 97, 114, 108, 105, 116, 122, 71, 101, 110, 101, 114, 97, 116, 111, 114, 32, 108, 111, 111, 112, 46, 101, 120, 97, 109, 112, 108, 101, 47, 103, 48, 49, 50, 52, 53, 47, 108, 97, 119, 115, 46, 70, 110, 69, 120, 97, 99, 116, 73, 115, 83, 113, 117, 97, 114, 101, 32, 108, 111, 111, 112, 46, 101, 120, 97, 109, 112, 108, 101, 47, 103, 48, 49, 50, 52, 53, 47, 108, 97, 119, 115, 46, 70, 110, 69, 120, 97, 99, 116, 65, 112, 112, 108, 121, 83, 113, 117, 97, 114, 101, 32, 108, 111, 111, 112, 46, 101, 120, 97, 109, 112, 108, 101, 47, 103, 48, 49, 50, 52, 53, 47, 108, 97, 119, 115, 46, 70, 110, 69, 120, 97, 99, 116, 67, 104, 97, 114, 97, 99, 116, 101, 114, 105, 115, 116, 105, 99, 79, 102, 32, 108, 111, 111, 112, 46, 101, 120, 97, 109, 112, 108, 101, 47, 103, 48, 49, 50, 52, 53, 47, 108, 97, 119, 115, 46, 70, 110, 69, 120, 97, 99, 116, 76, 101, 97, 115, 116, 79, 102, 32, 108, 111, 111, 112, 46, 101, 120, 97, 109, 112, 108, 101, 47, 103, 48, 49, 50, 52, 53, 47, 108, 97, 119, 115, 46, 70, 110, 69, 120, 97, 99, 116, 79, 114, 100, 101, 114, 79, 102, 86, 101, 99, 116, 111, 114, 32, 108, 111, 111, 112, 46, 101, 120, 97, 109, 112, 108, 101, 47, 103, 48, 49, 50, 52, 53, 47, 108, 97, 119, 115, 46, 70, 110, 69, 120, 97, 99, 116, 73, 110, 118, 97, 114, 105, 97, 110, 116, 70, 97, 99, 116, 111, 114, 115, 32, 108, 111, 111, 112, 46, 101, 120, 97, 109, 112, 108, 101, 47, 103, 48, 49, 50, 52, 53, 47, 108, 97, 119, 115, 46, 70, 110, 69, 120, 97, 99, 116, 73, 115, 67, 121, 99, 108, 105, 99, 77, 111, 100, 117, 108, 101, 32, 108, 111, 111, 112, 46, 101, 120, 97, 109, 112, 108, 101, 47, 103, 48, 49, 50, 52, 53, 47, 108, 97, 119, 115, 46, 70, 110, 69, 120, 97, 99, 116, 77, 111, 100, 117, 108, 101, 71, 101, 110, 101, 114, 97, 116, 111, 114, 32, 108, 111, 111, 112, 46, 101, 120, 97, 109, 112, 108, 101, 47, 103, 48, 49, 50, 52, 53, 47, 108, 97, 119, 115, 46, 70, 110, 69, 120, 97, 99, 116, 75, 101, 114, 110, 101, 108, 79, 102, 80, 111, 108, 121, 32, 108, 111, 111, 112, 46, 101, 120, 97, 109, 112, 108, 101, 47, 103, 48, 49, 50, 52, 53, 47, 108, 97, 119, 115, 46, 70, 110, 69, 120, 97, 99, 116, 83, 113, 117, 97, 114, 101, 79, 102, 83, 107, 101, 119, 32, 108, 111, 111, 112, 46, 101, 120, 97, 109, 112, 108, 101, 47, 103, 48, 49, 50, 52, 53, 47, 108, 97, 119, 115, 46, 70, 110, 69, 120, 97, 99, 116, 67, 111, 109, 112, 97, 110, 105, 111, 110, 79, 102, 32, 108, 111, 111, 112, 46, 101, 120, 97, 109, 112, 108, 101, 47, 103, 48, 49, 50, 52, 53, 47, 108, 97, 119, 115, 46, 70, 110, 69, 120, 97, 99, 116, 65, 114, 101, 83, 105, 109, 105, 108, 97, 114]
def initRest : List (List Nat) := [[97, 116], [108, 111, 111, 112, 46, 101, 120, 97, 109, 112, 108, 101, 47, 103, 48, 49, 50, 52, 53, 47, 108, 97, 119, 115, 46, 70, 110, 69, 120, 97, 99, 116, 80, 111, 119, 101, 114, 79, 102, 83, 107, 101, 119], [108, 111, 111, 112, 46, 101, 120, 97, 109, 112, 108, 101, 47, 103, 48, 49, 50, 52, 53, 47, 108, 97, 119, 115, 46, 70, 110, 69, 120, 97, 99, 116, 68, 105, 118, 105, 100, 101, 82, 105, 103, 104, 116], [108, 111, 111, 112, 46, 101, 120, 97, 109, 112, 108, 101, 47, 103, 48, 49, 50, 52, 53, 47, 108, 97, 119, 115, 46, 70, 110, 69, 120, 97, 99, 116, 68, 105, 118, 105, 100, 101, 76, 101, 102, 116], [108, 111, 111, 112, 46, 101, 120, 97, 109, 112, 108, 101, 47, 103, 48, 49, 50, 52, 53, 47, 108, 97, 119, 115, 46, 70, 110, 69, 120, 97, 99, 116, 82, 105, 103, 104, 116, 68, 105, 118, 105, 115, 111, 114], [108, 111, 111, 112, 46, 101, 120, 97, 109, 112, 108, 101, 47, 103, 48, 49, 50, 52, 53, 47, 108, 97, 119, 115, 46, 70, 110, 69, 120, 97, 99, 116, 76, 101, 102, 116, 77, 117, 108, 116, 105, 112, 108, 101], [108, 111, 111, 112, 46, 101, 120, 97, 109, 112, 108, 101, 47, 103, 48, 49, 50, 52, 53, 47, 108, 97, 119, 115, 46, 70, 110, 69, 120, 97, 99, 116, 75, 101, 114, 110, 101, 108, 79, 102, 83, 107, 101, 119], [108, 111, 111, 112, 46, 101, 120, 97, 109, 112, 108, 101, 47, 103, 48, 49, 50, 52, 53, 47, 108, 97, 119, 115, 46, 70, 110, 69, 120, 97, 99, 116, 76, 101, 97, 115, 116, 83, 107, 101, 119], [108, 111, 111, 112, 46, 101, 120, 97, 109, 112, 108, 101, 47, 103, 48, 49, 50, 52, 53, 47, 108, 97, 119, 115, 46, 70, 110, 69, 120, 97, 99, 116, 67, 97, 114, 108, 105, 116, 122, 71, 101, 110, 101, 114, 97, 116, 111, 114], [108, 111, 111, 112, 46, 101, 120, 97, 109, 112, 108, 101, 47, 103, 48, 49, 50, 52, 53, 47, 108, 97, 119, 115, 46, 70, 110, 69, 120, 97, 99, 116, 73, 115, 83, 113, 117, 97, 114, 101], [108, 111, 111, 112, 46, 101, 120, 97, 109, 112, 108, 101, 47, 103, 48, 49, 50, 52, 53, 47, 108, 97, 119, 115, 46, 70, 110, 69, 120, 97, 99, 116, 65, 112, 112, 108, 121, 83, 113, 117, 97, 114, 101], [108, 111, 111, 112, 46, 101, 120, 97, 109, 112, 108, 101, 47, 103, 48, 49, 50, 52, 53, 47, 108, 97, 119, 115, 46, 70, 110, 69, 120, 97, 99, 116, 67, 104, 97, 114, 97, 99, 116, 101, 114, 105, 115, 116, 105, 99, 79, 102], [108, 111, 111, 112, 46, 101, 120, 97, 109, 112, 108, 101, 47, 103, 48, 49, 50, 52, 53, 47, 108, 97, 119, 115, 46, 70, 110, 69, 120, 97, 99, 116, 76, 101, 97, 115, 116, 79, 102], [108, 111, 111, 112, 46, 101, 120, 97, 109, 112, 108, 101, 47, 103, 48, 49, 50, 52, 53, 47, 108, 97, 119, 115, 46, 70, 110, 69, 120, 97, 99, 116, 79, 114, 100, 101, 114, 79, 102, 86, 101, 99, 116, 111, 114], [108, 111, 111, 112, 46, 101, 120, 97, 109, 112, 108, 101, 47, 103, 48, 49, 50, 52, 53, 47, 108, 97, 119, 115, 46, 70, 110, 69, 120, 97, 99, 116, 73, 110, 118, 97, 114, 105, 97, 110, 116, 70, 97, 99, 116, 111, 114, 115], [108, 111, 111, 112, 46, 101, 120, 97, 109, 112, 108, 101, 47, 103, 48, 49, 50, 52, 53, 47, 108, 97, 119, 115, 46, 70, 110, 69, 120, 97, 99, 116, 73, 115, 67, 121, 99, 108, 105, 99, 77, 111, 100, 117, 108, 101], [108, 111, 111, 112, 46, 101, 120, 97, 109, 112, 108, 101, 47, 103, 48, 49, 50, 52, 53, 47, 108, 97, 119, 115, 46, 70, 110, 69, 120, 97, 99, 116, 77, 111, 100, 117, 108, 101, 71, 101, 110, 101, 114, 97, 116, 111, 114], [108, 111, 111, 112, 46, 101, 120, 97, 109, 112, 108, 101, 47, 103, 48, 49, 50, 52, 53, 47, 108, 97, 119, 115, 46, 70, 110, 69, 120, 97, 99, 116, 75, 101, 114, 110, 101, 108, 79, 102, 80, 111, 108, 121], [108, 111, 111, 112, 46, 101, 120, 97, 109, 112, 108, 101, 47, 103, 48, 49, 50, 52, 53, 47, 108, 97, 119, 115, 46, 70, 110, 69, 120, 97, 99, 116, 83, 113, 117, 97, 114, 101, 79, 102, 83, 107, 101, 119], [108, 111, 111, 112, 46, 101, 120, 97, 109, 112, 108, 101, 47, 103, 48, 49, 50, 52, 53, 47, 108, 97, 119, 115, 46, 70, 110, 69, 120, 97, 99, 116, 67, 111, 109, 112, 97, 110, 105, 111, 110, 79, 102], [108, 111, 111, 112, 46, 101, 120, 97, 109, 112, 108, 101, 47, 103, 48, 49, 50, 52, 53, 47, 108, 97, 119, 115, 46, 70, 110, 69, 120, 97, 99, 116, 65, 114, 101, 83, 105, 109, 105, 108, 97, 114]]
theorem init_split : behindMainWord (wordsSigns (initSigns.map Char.ofNat)) = cutW :: initRest.map (fun w => w.map Char.ofNat) := by kernel_rfl
theorem init_order : Try.prog.initOrder = String.ofList (initSigns.map Char.ofNat) := by kernel_rfl
theorem init_cut : behindMainWord (wordsSigns Try.prog.initOrder.toList) = cutW :: initRest.map (fun w => w.map Char.ofNat) :=
 (congrArg (fun s : String => behindMainWord (wordsSigns s.toList)) init_order).trans ((congrArg (fun l => behindMainWord (wordsSigns l)) String.toList_ofList).trans init_split)
theorem Try.laysLater : Try.prog.laysLater = false := by kernel_rfl
theorem Try.bearsReflect : Try.prog.bearsReflect = false := by kernel_rfl
theorem Try.doorFits : Try.prog.doorFits [] = true := by kernel_rfl
theorem Try.mayEnter : Try.pinned.checked.prog.mayEnter = true := mayEnter_cut init_cut Try.laysLater Try.bearsReflect Try.doorFits
theorem Try.liftsFinal : Try.pinned.checked.prog.liftsFinal = false := lifts_cut init_cut
theorem Try.make : Try.pinned.checked.prog.make = some .cut := make_cut init_cut
end Go.Proofs.Ytdlojnmggogbaaa
end
