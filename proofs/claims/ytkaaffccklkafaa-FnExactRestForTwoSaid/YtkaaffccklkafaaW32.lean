/-
  Walks: rests for two moduli, the model.
-/
import Derived.Test.YtkaaffccklkafaaW31
namespace Go.Proofs.Ytkaaffccklkafaa
open Go.RowKit
set_option linter.unusedVariables false
set_option linter.unusedSimpArgs false
attribute [local irreducible] deg invN dS qS stp stpr quoP resP oneP upP upF hmR mmP shA addK bzD bzU bzW
/-- the rest of a product by the rest of a factor -/
theorem mmP_rest {p d : Nat} {a b m : Nat → Nat} (hp : p = 2 ∨ p = 3 ∨ p = 5 ∨ p = 7) (hb : ∀ k, k < 64 → b k < p) (hm : ∀ k, k < 64 → m k < p) (hmon : mon m d) : ∀ k, k < 64 → mmP p a (resP p b m) m k = mmP p a b m k := by
  have p0 : 0 < p := by omega
  have h0 : 0 ≤ deg m := by rw [hmon.1]; omega
  refine res_same (fun k hk => mmP_lt p0 k (by omega)) (fun k hk => mmP_lt p0 k (by omega)) hmon (by rw [← hmon.1]; exact mmP_deg hp hm h0) (by rw [← hmon.1]; exact mmP_deg hp hm h0) ?_
  refine rm_trans (rm_symm (mmP_rm hp hm h0)) (rm_trans ?_ (mmP_rm hp hm h0))
  exact rm_mz2 (fin_lz _) (fin_lz _) (rm_refl _ _ _) (rm_symm (res_rm hp hb hm h0))
theorem mmP_congr {p : Nat} {a b b' m : Nat → Nat} (h : ∀ k, k < 64 → b k = b' k) : mmP p a b m = mmP p a b' m := by
  have e : cut b = cut b' := by
    funext k; unfold cut
    by_cases hk : k < 64
    · rw [if_pos hk, if_pos hk, h k hk]
    · rw [if_neg hk, if_neg hk]
  unfold mmP prd
  rw [e]
theorem resP_congr {p : Nat} {a a' m : Nat → Nat} (h : ∀ k, k < 64 → a k = a' k) : resP p a m = resP p a' m := by
  have e : cut a = cut a' := by
    funext k; unfold cut
    by_cases hk : k < 64
    · rw [if_pos hk, if_pos hk, h k hk]
    · rw [if_neg hk, if_neg hk]
  unfold resP
  rw [e]
set_option maxRecDepth 100000 in
set_option maxHeartbeats 1600000 in
theorem spec_RestForTwo_any (p : Int) (fa fm fb fn : Nat → Nat) (hfa : byte fa) (hfm : byte fm) (hfb : byte fb) (hfn : byte fn) (w : World) :
    Calls Try.prog 126 #[.int .i64 p, .agg (bcells 64 fa), .agg (bcells 64 fm), .agg (bcells 64 fb), .agg (bcells 64 fn)] w fun e w' => e = .returned (.tuple #[.agg (bcells 64 (rfV p fa fm fb fn).1), .int .i64 (rfV p fa fm fb fn).2]) ∧ Below w.heap.size w w' := by
  go_enter Try.func126, Try.ntmps126
  go_upto_region 1 with (fail)
  rw [← zero64]
  obtain ⟨W1, hwo⟩ : ∃ v : World, v = (((((w.alloc (.cells (bcells 64 (fa)) 25)).alloc (.cells (bcells 64 (fm)) 25)).alloc (.cells (bcells 64 (fb)) 25)).alloc (.cells (bcells 64 (fn)) 25)).alloc (.cells (bcells 64 fun _ => 0) 25)) := ⟨_, rfl⟩
  have B0 : Blk W1 (w.heap.size) 64 25 (fa) := by subst hwo; have := (((((Blk.new w 64 25 (fa)).alloc (.cells (bcells 64 (fm)) 25)).alloc (.cells (bcells 64 (fb)) 25)).alloc (.cells (bcells 64 (fn)) 25)).alloc (.cells (bcells 64 fun _ => 0) 25)); simpa using this
  have B1 : Blk W1 (w.heap.size + 1) 64 25 (fm) := by subst hwo; have := ((((Blk.new (w.alloc (.cells (bcells 64 (fa)) 25)) 64 25 (fm)).alloc (.cells (bcells 64 (fb)) 25)).alloc (.cells (bcells 64 (fn)) 25)).alloc (.cells (bcells 64 fun _ => 0) 25)); simpa using this
  have B2 : Blk W1 (w.heap.size + 1 + 1) 64 25 (fb) := by subst hwo; have := (((Blk.new ((w.alloc (.cells (bcells 64 (fa)) 25)).alloc (.cells (bcells 64 (fm)) 25)) 64 25 (fb)).alloc (.cells (bcells 64 (fn)) 25)).alloc (.cells (bcells 64 fun _ => 0) 25)); simpa using this
  have B3 : Blk W1 (w.heap.size + 1 + 1 + 1) 64 25 (fn) := by subst hwo; have := ((Blk.new (((w.alloc (.cells (bcells 64 (fa)) 25)).alloc (.cells (bcells 64 (fm)) 25)).alloc (.cells (bcells 64 (fb)) 25)) 64 25 (fn)).alloc (.cells (bcells 64 fun _ => 0) 25)); simpa using this
  have B4 : Blk W1 (w.heap.size + 1 + 1 + 1 + 1) 64 25 (fun _ => 0) := by subst hwo; have := (Blk.new ((((w.alloc (.cells (bcells 64 (fa)) 25)).alloc (.cells (bcells 64 (fm)) 25)).alloc (.cells (bcells 64 (fb)) 25)).alloc (.cells (bcells 64 (fn)) 25)) 64 25 (fun _ => 0)); simpa using this
  have hb : Below w.heap.size w W1 := by subst hwo; exact ((((((Below.refl _ _).alloc (Nat.le_refl _) _).alloc (by simp) _).alloc (by simp; omega) _).alloc (by simp; omega) _).alloc (by simp; omega) _)
  rw [← hwo]
  clear hwo
  go_upto_region 2 with (first | (refine wpList_load_any rfl 25 (.tmp 7) rfl _ rfl 64 25 _ B1 _ Try.underlying25 rfl Try.size25 ?_) | (refine wpList_load_any rfl 25 (.tmp 6) rfl _ rfl 64 25 _ B0 _ Try.underlying25 rfl Try.size25 ?_) | (refine wpList_load_any rfl 25 (.tmp 8) rfl _ rfl 64 25 _ B2 _ Try.underlying25 rfl Try.size25 ?_) | (refine wpList_load_any rfl 25 (.tmp 9) rfl _ rfl 64 25 _ B3 _ Try.underlying25 rfl Try.size25 ?_) | (refine wpList_build_polys rfl 57 _ [fa, fb, fn] rfl 25 rfl Try.underlying57 Try.elem25 (by simp) (by simp) rfl ?_; intro wa hwa hps hba; clear hwa) | (go_at_call 198; refine (l02Modulus_any p fm hfm [fa, fb, fn] (by simp [hfa, hfb, hfn]) _ _ hps (by simp)).mono ?_; rintro e W2 ⟨rfl, hbb⟩))
  have hBB : Below W1.heap.size W1 W2 := hba.trans (hbb.mono hba.size)
  replace B0 := B0.below hBB B0.lt
  replace B1 := B1.below hBB B1.lt
  replace B2 := B2.below hBB B2.lt
  replace B3 := B3.below hBB B3.lt
  replace B4 := B4.below hBB B4.lt
  replace hb := hb.trans (hBB.mono hb.size)
  clear hBB hba hbb hps
  rcases codeL_two p [fa, fm, fb, fn] with hc | hc
  · obtain ⟨k1, k2, k3⟩ := code4 hc
    have HN := Lib.hid (fun W => l02Modulus_nil p fn hfn W k3)
    cases hm5 : monUp 5 fm with
    | false =>
      have HV := Lib.hid (rfV_2 hc (fun h => by rw [hm5] at h; exact absurd h.1 (by simp)))
      rw [modV_3 k1 k2 hm5]
      clear hc k1 k2 k3 HN
      go_upto_region 4 with (fail)
      go_upto_region 5 with (fail)
      have lt_B0 := B0.lt
      have lt_B1 := B1.lt
      have lt_B2 := B2.lt
      have lt_B3 := B3.lt
      have lt_B4 := B4.lt
      go_wp2_with (first | rw [← zero64] | (refine wpList_store_blk rfl 25 (.tmp 10) (.tmp 31) rfl _ 64 (fun _ => 0) rfl rfl 25 _ (B4) Try.size25 ?_; try simp only [Act.put]; go_wp2_with fail))
      have qB0 : Blk (W2.setRow (w.heap.size + 1 + 1 + 1 + 1) (bcells 64 (fun _ => 0))) (w.heap.size) 64 25 (fa) := (B0.rowOther (by omega))
      have qB1 : Blk (W2.setRow (w.heap.size + 1 + 1 + 1 + 1) (bcells 64 (fun _ => 0))) (w.heap.size + 1) 64 25 (fm) := (B1.rowOther (by omega))
      have qB2 : Blk (W2.setRow (w.heap.size + 1 + 1 + 1 + 1) (bcells 64 (fun _ => 0))) (w.heap.size + 1 + 1) 64 25 (fb) := (B2.rowOther (by omega))
      have qB3 : Blk (W2.setRow (w.heap.size + 1 + 1 + 1 + 1) (bcells 64 (fun _ => 0))) (w.heap.size + 1 + 1 + 1) 64 25 (fn) := (B3.rowOther (by omega))
      have qB4 : Blk (W2.setRow (w.heap.size + 1 + 1 + 1 + 1) (bcells 64 (fun _ => 0))) (w.heap.size + 1 + 1 + 1 + 1) 64 25 (fun _ => 0) := (B4.row (fun _ => 0))
      have qhb : Below w.heap.size w (W2.setRow (w.heap.size + 1 + 1 + 1 + 1) (bcells 64 (fun _ => 0))) := (below_row hb (by omega) _)
      obtain ⟨W11, hwo⟩ : ∃ v : World, v = (W2.setRow (w.heap.size + 1 + 1 + 1 + 1) (bcells 64 (fun _ => 0))) := ⟨_, rfl⟩
      rw [← hwo] at qB0 qB1 qB2 qB3 qB4 qhb ⊢
      clear hwo
      clear B0 B1 B2 B3 B4 hb
      have B0 := qB0
      have B1 := qB1
      have B2 := qB2
      have B3 := qB3
      have B4 := qB4
      have hb := qhb
      clear qB0 qB1 qB2 qB3 qB4 qhb
      try simp only [Act.put, List.setIfInBounds_toArray, List.set_cons_zero, List.set_cons_succ]
      refine bodyPost_ret (results_bt rfl _ _ _ 64 25 5 _ rfl B4 Try.underlying25 Try.size25) rfl ⟨by first | (rw [HV.out]; rfl) | rw [HV.out], hb⟩
    | true =>
      cases hn5 : monUp 5 fn with
      | false =>
        have HV := Lib.hid (rfV_2 hc (fun h => by rw [hn5] at h; exact absurd h.2 (by simp)))
        rw [show nilV fn = 2 by unfold nilV; rw [hn5]; rfl] at HN
        rw [modV_0 k1 k2 hm5]
        clear hc k1 k2 k3
        go_upto_region 3 with (fail)
        go_upto_region 4 with (first | (refine wpList_load_any rfl 25 (.tmp 9) rfl _ rfl 64 25 _ (B3) _ Try.underlying25 rfl Try.size25 ?_) | (go_at_call 198; refine (HN.out _).mono ?_; rintro e W11 ⟨rfl, hW11⟩; replace B0 := B0.below hW11 B0.lt; replace B1 := B1.below hW11 B1.lt; replace B2 := B2.below hW11 B2.lt; replace B3 := B3.below hW11 B3.lt; replace B4 := B4.below hW11 B4.lt; replace hb := (hb).trans (hW11.mono (hb).size)))
        go_upto_region 5 with (fail)
        have lt_B0 := B0.lt
        have lt_B1 := B1.lt
        have lt_B2 := B2.lt
        have lt_B3 := B3.lt
        have lt_B4 := B4.lt
        go_wp2_with (first | rw [← zero64] | (refine wpList_store_blk rfl 25 (.tmp 10) (.tmp 31) rfl _ 64 (fun _ => 0) rfl rfl 25 _ (B4) Try.size25 ?_; try simp only [Act.put]; go_wp2_with fail))
        have qB0 : Blk (W11.setRow (w.heap.size + 1 + 1 + 1 + 1) (bcells 64 (fun _ => 0))) (w.heap.size) 64 25 (fa) := (B0.rowOther (by omega))
        have qB1 : Blk (W11.setRow (w.heap.size + 1 + 1 + 1 + 1) (bcells 64 (fun _ => 0))) (w.heap.size + 1) 64 25 (fm) := (B1.rowOther (by omega))
        have qB2 : Blk (W11.setRow (w.heap.size + 1 + 1 + 1 + 1) (bcells 64 (fun _ => 0))) (w.heap.size + 1 + 1) 64 25 (fb) := (B2.rowOther (by omega))
        have qB3 : Blk (W11.setRow (w.heap.size + 1 + 1 + 1 + 1) (bcells 64 (fun _ => 0))) (w.heap.size + 1 + 1 + 1) 64 25 (fn) := (B3.rowOther (by omega))
        have qB4 : Blk (W11.setRow (w.heap.size + 1 + 1 + 1 + 1) (bcells 64 (fun _ => 0))) (w.heap.size + 1 + 1 + 1 + 1) 64 25 (fun _ => 0) := (B4.row (fun _ => 0))
        have qhb : Below w.heap.size w (W11.setRow (w.heap.size + 1 + 1 + 1 + 1) (bcells 64 (fun _ => 0))) := (below_row hb (by omega) _)
        obtain ⟨W12, hwo⟩ : ∃ v : World, v = (W11.setRow (w.heap.size + 1 + 1 + 1 + 1) (bcells 64 (fun _ => 0))) := ⟨_, rfl⟩
        rw [← hwo] at qB0 qB1 qB2 qB3 qB4 qhb ⊢
        clear hwo
        clear B0 B1 B2 B3 B4 hb
        have B0 := qB0
        have B1 := qB1
        have B2 := qB2
        have B3 := qB3
        have B4 := qB4
        have hb := qhb
        clear qB0 qB1 qB2 qB3 qB4 qhb
        try simp only [Act.put, List.setIfInBounds_toArray, List.set_cons_zero, List.set_cons_succ]
        refine bodyPost_ret (results_bt rfl _ _ _ 64 25 5 _ rfl B4 Try.underlying25 Try.size25) rfl ⟨by first | (rw [HV.out]; rfl) | rw [HV.out], hb⟩
      | true =>
        rw [show nilV fn = 0 by unfold nilV; rw [hn5]; rfl] at HN
        rw [modV_0 k1 k2 hm5]
        clear k1 k2 k3
        obtain ⟨n, hn, n2, n7⟩ := okP_nat (codeL_zero hc).1
        subst hn
        have la := lt_of_code hc (f := fa) (by simp)
        have lm := lt_of_code hc (f := fm) (by simp)
        have lb := lt_of_code hc (f := fb) (by simp)
        have ln' := lt_of_code hc (f := fn) (by simp)
        have hpr := prime_of hc
        have p0 : 0 < n := by omega
        obtain ⟨dm, hmonm, dm1, dm5⟩ := mon_up hm5
        obtain ⟨dn, hmonn, dn1, dn5⟩ := mon_up hn5
        have m0 : 0 ≤ deg fm := by rw [hmonm.1]; omega
        have n0 : 0 ≤ deg fn := by rw [hmonn.1]; omega
        have la' : ∀ k, k < 64 → resP n fa fm k < n := resP_lt p0 la
        cases hu : eqN 64 (bzD n fm fn) oneP with
        | false =>
          have HV := Lib.hid (rfV_5 hc ⟨hm5, hn5⟩ hu)
          have HG := Lib.hid (fun W => l01Gcd_any n fm fn W hpr lm ln' (fun h => absurd h.2 (by omega)))
          have hgd := Try.noGuard25
          have heq := fun W => run_equalIn_bytes (P := Try.prog) W 9998 25 5 64 (bzD n fm fn) oneP Try.underlying25 Try.underlying5 Try.size5
          rw [hu] at heq
          clear hc hu hmonm hmonn dm1 dm5 dn1 dn5
          go_upto_region 3 with (fail)
          go_upto_region 4 with (first | (refine wpList_load_any rfl 25 (.tmp 9) rfl _ rfl 64 25 _ (B3) _ Try.underlying25 rfl Try.size25 ?_) | (go_at_call 198; refine (HN.out _).mono ?_; rintro e W11 ⟨rfl, hW11⟩; replace B0 := B0.below hW11 B0.lt; replace B1 := B1.below hW11 B1.lt; replace B2 := B2.below hW11 B2.lt; replace B3 := B3.below hW11 B3.lt; replace B4 := B4.below hW11 B4.lt; replace hb := (hb).trans (hW11.mono (hb).size)))
          go_upto_region 6 with (fail)
          go_upto_region 7 with (first | (refine wpList_load_any rfl 25 (.tmp 7) rfl _ rfl 64 25 _ (B1) _ Try.underlying25 rfl Try.size25 ?_) | (refine wpList_load_any rfl 25 (.tmp 9) rfl _ rfl 64 25 _ (B3) _ Try.underlying25 rfl Try.size25 ?_) | (go_at_call 166; refine (HG.out _).mono ?_; rintro e W12 ⟨rfl, hW12⟩; replace B0 := B0.below hW12 B0.lt; replace B1 := B1.below hW12 B1.lt; replace B2 := B2.below hW12 B2.lt; replace B3 := B3.below hW12 B3.lt; replace B4 := B4.below hW12 B4.lt; replace hb := (hb).trans (hW12.mono (hb).size)) | (go_at_call 177; refine (l01One_any _).mono ?_; rintro e W13 ⟨rfl, hW13⟩; replace B0 := B0.below hW13 B0.lt; replace B1 := B1.below hW13 B1.lt; replace B2 := B2.below hW13 B2.lt; replace B3 := B3.below hW13 B3.lt; replace B4 := B4.below hW13 B4.lt; replace hb := (hb).trans (hW13.mono (hb).size)))
          clear heq hgd
          have lt_B0 := B0.lt
          have lt_B1 := B1.lt
          have lt_B2 := B2.lt
          have lt_B3 := B3.lt
          have lt_B4 := B4.lt
          go_wp2_with (first | rw [← zero64] | (refine wpList_store_blk rfl 25 (.tmp 10) (.tmp 39) rfl _ 64 (fun _ => 0) rfl rfl 25 _ (B4) Try.size25 ?_; try simp only [Act.put]; go_wp2_with fail))
          have qB0 : Blk (W13.setRow (w.heap.size + 1 + 1 + 1 + 1) (bcells 64 (fun _ => 0))) (w.heap.size) 64 25 (fa) := (B0.rowOther (by omega))
          have qB1 : Blk (W13.setRow (w.heap.size + 1 + 1 + 1 + 1) (bcells 64 (fun _ => 0))) (w.heap.size + 1) 64 25 (fm) := (B1.rowOther (by omega))
          have qB2 : Blk (W13.setRow (w.heap.size + 1 + 1 + 1 + 1) (bcells 64 (fun _ => 0))) (w.heap.size + 1 + 1) 64 25 (fb) := (B2.rowOther (by omega))
          have qB3 : Blk (W13.setRow (w.heap.size + 1 + 1 + 1 + 1) (bcells 64 (fun _ => 0))) (w.heap.size + 1 + 1 + 1) 64 25 (fn) := (B3.rowOther (by omega))
          have qB4 : Blk (W13.setRow (w.heap.size + 1 + 1 + 1 + 1) (bcells 64 (fun _ => 0))) (w.heap.size + 1 + 1 + 1 + 1) 64 25 (fun _ => 0) := (B4.row (fun _ => 0))
          have qhb : Below w.heap.size w (W13.setRow (w.heap.size + 1 + 1 + 1 + 1) (bcells 64 (fun _ => 0))) := (below_row hb (by omega) _)
          obtain ⟨W14, hwo⟩ : ∃ v : World, v = (W13.setRow (w.heap.size + 1 + 1 + 1 + 1) (bcells 64 (fun _ => 0))) := ⟨_, rfl⟩
          rw [← hwo] at qB0 qB1 qB2 qB3 qB4 qhb ⊢
          clear hwo
          clear B0 B1 B2 B3 B4 hb
          have B0 := qB0
          have B1 := qB1
          have B2 := qB2
          have B3 := qB3
          have B4 := qB4
          have hb := qhb
          clear qB0 qB1 qB2 qB3 qB4 qhb
          try simp only [Act.put, List.setIfInBounds_toArray, List.set_cons_zero, List.set_cons_succ]
          refine bodyPost_ret (results_bt rfl _ _ _ 64 25 5 _ rfl B4 Try.underlying25 Try.size25) rfl ⟨by first | (rw [HV.out]; rfl) | rw [HV.out], hb⟩
        | true =>
          have HV := Lib.hid (rfV_0 hc ⟨hm5, hn5⟩ hu)
          have HG := Lib.hid (fun W => l01Gcd_any n fm fn W hpr lm ln' (fun h => absurd h.2 (by omega)))
          have e1 : ∀ k, k < 64 → addK n fb (resP n fa fm) (-1) k = subP n fb (resP n fa fm) k := fun k hk => addK_neg p0 la' hk
          have HMo := Lib.hid (fun W => l01Mod_any n fa fm W hpr la lm m0)
          have HIn := Lib.hid (fun W => l02Inverse_any n fm fn W hpr lm ln' dn hmonn hu)
          have HAd := Lib.hid (fun W => l01Add_any n fb (resP n fa fm) (-1) W n2 n7 (by omega) (by omega) lb la')
          have hadd : ∀ k, k < 64 → addK n fb (resP n fa fm) (-1) k < n := fun k _ => addK_lt p0 k
          have HM2 := Lib.hid (fun W => l01Mod_any n (addK n fb (resP n fa fm) (-1)) fn W hpr hadd ln' n0)
          have HE := Lib.hid (show ∀ k, k < 64 → mmP n (bzU n fm fn) (resP n (addK n fb (resP n fa fm) (-1)) fn) fn k = rfT n fa fm fb fn k by
            intro k hk
            rw [mmP_rest hpr hadd ln' hmonn k hk]
            unfold rfT
            rw [mmP_congr e1])
          have HMM := Lib.hid (show ∀ W, Calls Try.prog 208 #[.int .i64 (n : Int), .agg (bcells 64 (bzU n fm fn)), .agg (bcells 64 (resP n (addK n fb (resP n fa fm) (-1)) fn)), .agg (bcells 64 fn)] W fun e w' => e = .returned (.agg (bcells 64 (rfT n fa fm fb fn))) ∧ Below W.heap.size W w' by
            intro W
            have := l01MulMod_any n (bzU n fm fn) (resP n (addK n fb (resP n fa fm) (-1)) fn) fn W hpr (fun k _ => bzU_lt p0 k) (resP_lt p0 hadd) ln' n0
            rwa [bcells_congr HE.out] at this)
          have hrt : ∀ k, k < 64 → rfT n fa fm fb fn k < n := fun k hk => mmP_lt p0 k (by omega)
          have hdt : deg fm + deg (rfT n fa fm fb fn) ≤ 63 := by
            have h1 : deg (rfT n fa fm fb fn) < deg fn := mmP_deg hpr ln' n0
            have h2 := hmonm.1
            have h3 := hmonn.1
            omega
          have HTT := Lib.hid (show tmV n fm (rfT n fa fm fb fn) = (prd n fm (rfT n fa fm fb fn), true) from if_pos hdt)
          have HTi := Lib.hid (show ∀ W, Calls Try.prog 146 #[.int .i64 (n : Int), .agg (bcells 64 fm), .agg (bcells 64 (rfT n fa fm fb fn))] W fun e w' => e = .returned (.tuple #[.agg (bcells 64 (prd n fm (rfT n fa fm fb fn))), .bool true]) ∧ Below W.heap.size W w' by
            intro W
            have := l01Times_any n fm (rfT n fa fm fb fn) W n2 n7 lm hrt
            rwa [HTT.out] at this)
          have HFi := Lib.hid (show ∀ W, Calls Try.prog 157 #[.int .i64 (n : Int), .agg (bcells 64 (resP n fa fm)), .agg (bcells 64 (prd n fm (rfT n fa fm fb fn))), .int .i64 1] W fun e w' => e = .returned (.agg (bcells 64 (rfR n fa fm fb fn))) ∧ Below W.heap.size W w' by
            intro W
            have := l01Add_any n (resP n fa fm) (prd n fm (rfT n fa fm fb fn)) 1 W n2 n7 (by omega) (by omega) la' (fun k _ => prd_lt p0 k)
            rw [addK_one] at this
            exact this)
          clear e1 hdt hrt hadd
          have hgd := Try.noGuard25
          have heq := fun W => run_equalIn_bytes (P := Try.prog) W 9998 25 5 64 (bzD n fm fn) oneP Try.underlying25 Try.underlying5 Try.size5
          rw [hu] at heq
          clear hc hu hmonm hmonn dm1 dm5 dn1 dn5
          go_upto_region 3 with (fail)
          go_upto_region 4 with (first | (refine wpList_load_any rfl 25 (.tmp 9) rfl _ rfl 64 25 _ (B3) _ Try.underlying25 rfl Try.size25 ?_) | (go_at_call 198; refine (HN.out _).mono ?_; rintro e W11 ⟨rfl, hW11⟩; replace B0 := B0.below hW11 B0.lt; replace B1 := B1.below hW11 B1.lt; replace B2 := B2.below hW11 B2.lt; replace B3 := B3.below hW11 B3.lt; replace B4 := B4.below hW11 B4.lt; replace hb := (hb).trans (hW11.mono (hb).size)))
          go_upto_region 6 with (fail)
          go_upto_region 8 with (first | (refine wpList_load_any rfl 25 (.tmp 7) rfl _ rfl 64 25 _ (B1) _ Try.underlying25 rfl Try.size25 ?_) | (refine wpList_load_any rfl 25 (.tmp 9) rfl _ rfl 64 25 _ (B3) _ Try.underlying25 rfl Try.size25 ?_) | (go_at_call 166; refine (HG.out _).mono ?_; rintro e W12 ⟨rfl, hW12⟩; replace B0 := B0.below hW12 B0.lt; replace B1 := B1.below hW12 B1.lt; replace B2 := B2.below hW12 B2.lt; replace B3 := B3.below hW12 B3.lt; replace B4 := B4.below hW12 B4.lt; replace hb := (hb).trans (hW12.mono (hb).size)) | (go_at_call 177; refine (l01One_any _).mono ?_; rintro e W13 ⟨rfl, hW13⟩; replace B0 := B0.below hW13 B0.lt; replace B1 := B1.below hW13 B1.lt; replace B2 := B2.below hW13 B2.lt; replace B3 := B3.below hW13 B3.lt; replace B4 := B4.below hW13 B4.lt; replace hb := (hb).trans (hW13.mono (hb).size)))
          clear heq hgd
          have lt_B0 := B0.lt
          have lt_B1 := B1.lt
          have lt_B2 := B2.lt
          have lt_B3 := B3.lt
          have lt_B4 := B4.lt
          go_upto_region 9 with (first | rw [← zero64] | (refine wpList_load_any rfl 25 (.tmp 6) rfl _ rfl 64 25 _ (B0) _ Try.underlying25 rfl Try.size25 ?_) | (refine wpList_load_any rfl 25 (.tmp 7) rfl _ rfl 64 25 _ (B1) _ Try.underlying25 rfl Try.size25 ?_) | (go_at_call 207; refine (HMo.out _).mono ?_; rintro e W14 ⟨rfl, hW14⟩; replace B0 := B0.below hW14 B0.lt; replace B1 := B1.below hW14 B1.lt; replace B2 := B2.below hW14 B2.lt; replace B3 := B3.below hW14 B3.lt; replace B4 := B4.below hW14 B4.lt; replace hb := (hb).trans (hW14.mono (hb).size)) | (refine wpList_store_blk rfl 25 (.tmp 13) (.tmp 43) rfl _ 64 (resP n fa fm) rfl rfl 25 _ ((Blk.new W14 64 25 (fun _ => 0))) Try.size25 ?_; try simp only [Act.put]))
          have lt_B0 := B0.lt
          have lt_B1 := B1.lt
          have lt_B2 := B2.lt
          have lt_B3 := B3.lt
          have lt_B4 := B4.lt
          have lhb := hb.size
          have qB0 : Blk ((W14.alloc (.cells (bcells 64 fun _ => 0) 25)).setRow (W14.heap.size) (bcells 64 (resP n fa fm))) (w.heap.size) 64 25 (fa) := ((B0.alloc (.cells (bcells 64 fun _ => 0) 25)).rowOther (by omega))
          have qB1 : Blk ((W14.alloc (.cells (bcells 64 fun _ => 0) 25)).setRow (W14.heap.size) (bcells 64 (resP n fa fm))) (w.heap.size + 1) 64 25 (fm) := ((B1.alloc (.cells (bcells 64 fun _ => 0) 25)).rowOther (by omega))
          have qB2 : Blk ((W14.alloc (.cells (bcells 64 fun _ => 0) 25)).setRow (W14.heap.size) (bcells 64 (resP n fa fm))) (w.heap.size + 1 + 1) 64 25 (fb) := ((B2.alloc (.cells (bcells 64 fun _ => 0) 25)).rowOther (by omega))
          have qB3 : Blk ((W14.alloc (.cells (bcells 64 fun _ => 0) 25)).setRow (W14.heap.size) (bcells 64 (resP n fa fm))) (w.heap.size + 1 + 1 + 1) 64 25 (fn) := ((B3.alloc (.cells (bcells 64 fun _ => 0) 25)).rowOther (by omega))
          have qB4 : Blk ((W14.alloc (.cells (bcells 64 fun _ => 0) 25)).setRow (W14.heap.size) (bcells 64 (resP n fa fm))) (w.heap.size + 1 + 1 + 1 + 1) 64 25 (fun _ => 0) := ((B4.alloc (.cells (bcells 64 fun _ => 0) 25)).rowOther (by omega))
          have qB5 : Blk ((W14.alloc (.cells (bcells 64 fun _ => 0) 25)).setRow (W14.heap.size) (bcells 64 (resP n fa fm))) (W14.heap.size) 64 25 (resP n fa fm) := ((Blk.new W14 64 25 (fun _ => 0)).row (resP n fa fm))
          have qhb : Below w.heap.size w ((W14.alloc (.cells (bcells 64 fun _ => 0) 25)).setRow (W14.heap.size) (bcells 64 (resP n fa fm))) := (below_row (hb.alloc (by have := hb.size; simp; omega) (.cells (bcells 64 fun _ => 0) 25)) (by omega) _)
          obtain ⟨W15, hwo⟩ : ∃ v : World, v = ((W14.alloc (.cells (bcells 64 fun _ => 0) 25)).setRow (W14.heap.size) (bcells 64 (resP n fa fm))) := ⟨_, rfl⟩
          rw [← hwo] at qB0 qB1 qB2 qB3 qB4 qB5 qhb ⊢
          clear hwo
          clear B0 B1 B2 B3 B4 hb
          have B0 := qB0
          have B1 := qB1
          have B2 := qB2
          have B3 := qB3
          have B4 := qB4
          have B5 := qB5
          have hb := qhb
          clear qB0 qB1 qB2 qB3 qB4 qB5 qhb
          obtain ⟨N1, hNN⟩ : ∃ n : Nat, n = W14.heap.size := ⟨_, rfl⟩
          rw [← hNN] at lt_B0 lt_B1 lt_B2 lt_B3 lt_B4 lhb B5 ⊢
          clear hNN
          have zN1_0 := lt_B0
          have zN1_1 := lt_B1
          have zN1_2 := lt_B2
          have zN1_3 := lt_B3
          have zN1_4 := lt_B4
          have zN1 := lhb
          clear lt_B0 lt_B1 lt_B2 lt_B3 lt_B4 lhb
          try simp only [Act.put, List.setIfInBounds_toArray, List.set_cons_zero, List.set_cons_succ]
          have lt_B0 : (w.heap.size) < W15.heap.size := B0.lt
          have lt_B1 : (w.heap.size + 1) < W15.heap.size := B1.lt
          have lt_B2 : (w.heap.size + 1 + 1) < W15.heap.size := B2.lt
          have lt_B3 : (w.heap.size + 1 + 1 + 1) < W15.heap.size := B3.lt
          have lt_B4 : (w.heap.size + 1 + 1 + 1 + 1) < W15.heap.size := B4.lt
          have lt_B5 : (N1) < W15.heap.size := B5.lt
          have hbase : w.heap.size ≤ W15.heap.size := hb.size
          refine wp_region_steps0 Try.mixed (by kernel_rfl) (by kernel_rfl) (fun v => by (simp only [frL, Act.put, List.setIfInBounds_toArray, List.set_cons_zero, List.set_cons_succ, Nat.reduceAdd, Nat.zero_add]; exact rfl))
            (fun L v W16 => Below w.heap.size w W16 ∧ W15.heap.size ≤ W16.heap.size ∧ Blk W16 (w.heap.size) 64 25 (fa) ∧ Blk W16 (w.heap.size + 1) 64 25 (fm) ∧ Blk W16 (w.heap.size + 1 + 1) 64 25 (fb) ∧ Blk W16 (w.heap.size + 1 + 1 + 1) 64 25 (fn) ∧ Blk W16 (w.heap.size + 1 + 1 + 1 + 1) 64 25 (fun _ => 0) ∧ Blk W16 (N1) 64 25 (resP n fa fm) ∧ (L 0 = true → v 0 = (.int .i64 (n : Int))) ∧ (L 1 = true → v 1 = (.int .i64 (n : Int))) ∧ (L 2 = true → v 2 = (.agg (bcells 64 (fm)))) ∧ (L 3 = true → v 3 = (.agg (bcells 64 (fn)))) ∧ (L 4 = true → v 4 = (.agg (bcells 64 (bzU n fm fn)))) ∧ (L 5 = true → v 5 = (.int .i64 (n : Int))) ∧ (L 6 = true → v 6 = (.int .i64 (n : Int))) ∧ (L 7 = true → v 7 = (.agg (bcells 64 (fb)))) ∧ (L 8 = true → v 8 = (.agg (bcells 64 (resP n fa fm)))) ∧ (L 9 = true → v 9 = (.agg (bcells 64 (addK n fb (resP n fa fm) (-1))))) ∧ (L 10 = true → v 10 = (.agg (bcells 64 (fn)))) ∧ (L 11 = true → v 11 = (.agg (bcells 64 (resP n (addK n fb (resP n fa fm) (-1)) fn)))) ∧ (L 12 = true → v 12 = (.agg (bcells 64 (fn)))) ∧ (L 13 = true → v 13 = (.agg (bcells 64 (rfT n fa fm fb fn)))) ∧ (L 14 = true → AF (v 14) W16 W15.heap.size 64 25) ∧ (L 15 = true → PF (v 14) W16 W15.heap.size 64 25 (rfT n fa fm fb fn))) ?_ ?_ ?_
          · intro v hv0
            exact ⟨hb.drew, Nat.le_refl _, B0.drew, B1.drew, B2.drew, B3.drew, B4.drew, B5.drew, (fun h => by cases h), (fun h => by cases h), (fun h => by cases h), (fun h => by cases h), (fun h => by cases h), (fun h => by cases h), (fun h => by cases h), (fun h => by cases h), (fun h => by cases h), (fun h => by cases h), (fun h => by cases h), (fun h => by cases h), (fun h => by cases h), (fun h => by cases h), (fun h => by cases h), (fun h => by cases h)⟩
          · refine (.cons rfl ?_ (.cons rfl ?_ (.cons rfl ?_ (.cons rfl ?_ (.cons rfl ?_ (.cons rfl ?_ (.cons rfl ?_ (.cons rfl ?_ (.cons rfl ?_ (.cons rfl ?_ (.cons rfl ?_ (.cons rfl ?_ (.cons rfl ?_ (.cons rfl ?_ (.cons rfl ?_ (.cons rfl ?_ (.nil _)))))))))))))))))
            · intro L v W16 hd hn ⟨hB, hz, s0, s1, s2, s3, s4, s5, h0, h1, h2, h3, h4, h5, h6, h7, h8, h9, h10, h11, h12, h13, h14, h15⟩ K hK
              go_wp2_with fail
              exact hK _ (.int .i64 (n : Int)) _ (by simp only [Act.put, List.setIfInBounds_toArray, List.set_cons_zero, List.set_cons_succ ]) ⟨hB, hz, s0, s1, s2, s3, s4, s5, (fun _ => rfl), h1, h2, h3, h4, h5, h6, h7, h8, h9, h10, h11, h12, h13, h14, h15⟩
            · intro L v W16 hd hn ⟨hB, hz, s0, s1, s2, s3, s4, s5, h0, h1, h2, h3, h4, h5, h6, h7, h8, h9, h10, h11, h12, h13, h14, h15⟩ K hK
              go_wp2_with fail
              exact hK _ (.int .i64 (n : Int)) _ (by simp only [Act.put, List.setIfInBounds_toArray, List.set_cons_zero, List.set_cons_succ ]) ⟨hB, hz, s0, s1, s2, s3, s4, s5, h0, (fun _ => rfl), h2, h3, h4, h5, h6, h7, h8, h9, h10, h11, h12, h13, h14, h15⟩
            · intro L v W16 hd hn ⟨hB, hz, s0, s1, s2, s3, s4, s5, h0, h1, h2, h3, h4, h5, h6, h7, h8, h9, h10, h11, h12, h13, h14, h15⟩ K hK
              refine wp_load_any 25 _ rfl _ rfl 64 25 _ s1 _ Try.underlying25 rfl Try.size25 ?_
              exact hK _ _ _ rfl ⟨hB, hz, s0, s1, s2, s3, s4, s5, h0, h1, (fun _ => rfl), h3, h4, h5, h6, h7, h8, h9, h10, h11, h12, h13, h14, h15⟩
            · intro L v W16 hd hn ⟨hB, hz, s0, s1, s2, s3, s4, s5, h0, h1, h2, h3, h4, h5, h6, h7, h8, h9, h10, h11, h12, h13, h14, h15⟩ K hK
              refine wp_load_any 25 _ rfl _ rfl 64 25 _ s3 _ Try.underlying25 rfl Try.size25 ?_
              exact hK _ _ _ rfl ⟨hB, hz, s0, s1, s2, s3, s4, s5, h0, h1, h2, (fun _ => rfl), h4, h5, h6, h7, h8, h9, h10, h11, h12, h13, h14, h15⟩
            · intro L v W16 hd hn ⟨hB, hz, s0, s1, s2, s3, s4, s5, h0, h1, h2, h3, h4, h5, h6, h7, h8, h9, h10, h11, h12, h13, h14, h15⟩ K hK
              have e1 := h1 (hd ⟨1, .data⟩ (by simp) rfl)
              have e2 := h2 (hd ⟨2, .data⟩ (by simp) rfl)
              have e3 := h3 (hd ⟨3, .data⟩ (by simp) rfl)
              go_wp2_with (go_at_call 200; refine (HIn.out _).mono ?_; rintro e wy ⟨rfl, hy⟩)
              exact hK _ (.agg (bcells 64 (bzU n fm fn))) _ (by simp only [Act.put, List.setIfInBounds_toArray, List.set_cons_zero, List.set_cons_succ, e1, e2, e3]) ⟨hB.trans (hy.mono hB.size), (Nat.le_trans hz hy.size), (s0).below hy (s0).lt, (s1).below hy (s1).lt, (s2).below hy (s2).lt, (s3).below hy (s3).lt, (s4).below hy (s4).lt, (s5).below hy (s5).lt, h0, h1, h2, h3, (fun _ => rfl), h5, h6, h7, h8, h9, h10, h11, h12, h13, (fun h => (h14 h).below hy), (fun h => (h15 h).below hy)⟩
            · intro L v W16 hd hn ⟨hB, hz, s0, s1, s2, s3, s4, s5, h0, h1, h2, h3, h4, h5, h6, h7, h8, h9, h10, h11, h12, h13, h14, h15⟩ K hK
              go_wp2_with fail
              exact hK _ (.int .i64 (n : Int)) _ (by simp only [Act.put, List.setIfInBounds_toArray, List.set_cons_zero, List.set_cons_succ ]) ⟨hB, hz, s0, s1, s2, s3, s4, s5, h0, h1, h2, h3, h4, (fun _ => rfl), h6, h7, h8, h9, h10, h11, h12, h13, h14, h15⟩
            · intro L v W16 hd hn ⟨hB, hz, s0, s1, s2, s3, s4, s5, h0, h1, h2, h3, h4, h5, h6, h7, h8, h9, h10, h11, h12, h13, h14, h15⟩ K hK
              go_wp2_with fail
              exact hK _ (.int .i64 (n : Int)) _ (by simp only [Act.put, List.setIfInBounds_toArray, List.set_cons_zero, List.set_cons_succ ]) ⟨hB, hz, s0, s1, s2, s3, s4, s5, h0, h1, h2, h3, h4, h5, (fun _ => rfl), h7, h8, h9, h10, h11, h12, h13, h14, h15⟩
            · intro L v W16 hd hn ⟨hB, hz, s0, s1, s2, s3, s4, s5, h0, h1, h2, h3, h4, h5, h6, h7, h8, h9, h10, h11, h12, h13, h14, h15⟩ K hK
              refine wp_load_any 25 _ rfl _ rfl 64 25 _ s2 _ Try.underlying25 rfl Try.size25 ?_
              exact hK _ _ _ rfl ⟨hB, hz, s0, s1, s2, s3, s4, s5, h0, h1, h2, h3, h4, h5, h6, (fun _ => rfl), h8, h9, h10, h11, h12, h13, h14, h15⟩
            · intro L v W16 hd hn ⟨hB, hz, s0, s1, s2, s3, s4, s5, h0, h1, h2, h3, h4, h5, h6, h7, h8, h9, h10, h11, h12, h13, h14, h15⟩ K hK
              refine wp_load_any 25 _ rfl _ rfl 64 25 _ s5 _ Try.underlying25 rfl Try.size25 ?_
              exact hK _ _ _ rfl ⟨hB, hz, s0, s1, s2, s3, s4, s5, h0, h1, h2, h3, h4, h5, h6, h7, (fun _ => rfl), h9, h10, h11, h12, h13, h14, h15⟩
            · intro L v W16 hd hn ⟨hB, hz, s0, s1, s2, s3, s4, s5, h0, h1, h2, h3, h4, h5, h6, h7, h8, h9, h10, h11, h12, h13, h14, h15⟩ K hK
              have e6 := h6 (hd ⟨6, .data⟩ (by simp) rfl)
              have e7 := h7 (hd ⟨7, .data⟩ (by simp) rfl)
              have e8 := h8 (hd ⟨8, .data⟩ (by simp) rfl)
              go_wp2_with (go_at_call 157; refine (HAd.out _).mono ?_; rintro e wy ⟨rfl, hy⟩)
              exact hK _ (.agg (bcells 64 (addK n fb (resP n fa fm) (-1)))) _ (by simp only [Act.put, List.setIfInBounds_toArray, List.set_cons_zero, List.set_cons_succ, e6, e7, e8]) ⟨hB.trans (hy.mono hB.size), (Nat.le_trans hz hy.size), (s0).below hy (s0).lt, (s1).below hy (s1).lt, (s2).below hy (s2).lt, (s3).below hy (s3).lt, (s4).below hy (s4).lt, (s5).below hy (s5).lt, h0, h1, h2, h3, h4, h5, h6, h7, h8, (fun _ => rfl), h10, h11, h12, h13, (fun h => (h14 h).below hy), (fun h => (h15 h).below hy)⟩
            · intro L v W16 hd hn ⟨hB, hz, s0, s1, s2, s3, s4, s5, h0, h1, h2, h3, h4, h5, h6, h7, h8, h9, h10, h11, h12, h13, h14, h15⟩ K hK
              refine wp_load_any 25 _ rfl _ rfl 64 25 _ s3 _ Try.underlying25 rfl Try.size25 ?_
              exact hK _ _ _ rfl ⟨hB, hz, s0, s1, s2, s3, s4, s5, h0, h1, h2, h3, h4, h5, h6, h7, h8, h9, (fun _ => rfl), h11, h12, h13, h14, h15⟩
            · intro L v W16 hd hn ⟨hB, hz, s0, s1, s2, s3, s4, s5, h0, h1, h2, h3, h4, h5, h6, h7, h8, h9, h10, h11, h12, h13, h14, h15⟩ K hK
              have e5 := h5 (hd ⟨5, .data⟩ (by simp) rfl)
              have e9 := h9 (hd ⟨9, .data⟩ (by simp) rfl)
              have e10 := h10 (hd ⟨10, .data⟩ (by simp) rfl)
              go_wp2_with (go_at_call 207; refine (HM2.out _).mono ?_; rintro e wy ⟨rfl, hy⟩)
              exact hK _ (.agg (bcells 64 (resP n (addK n fb (resP n fa fm) (-1)) fn))) _ (by simp only [Act.put, List.setIfInBounds_toArray, List.set_cons_zero, List.set_cons_succ, e5, e9, e10]) ⟨hB.trans (hy.mono hB.size), (Nat.le_trans hz hy.size), (s0).below hy (s0).lt, (s1).below hy (s1).lt, (s2).below hy (s2).lt, (s3).below hy (s3).lt, (s4).below hy (s4).lt, (s5).below hy (s5).lt, h0, h1, h2, h3, h4, h5, h6, h7, h8, h9, h10, (fun _ => rfl), h12, h13, (fun h => (h14 h).below hy), (fun h => (h15 h).below hy)⟩
            · intro L v W16 hd hn ⟨hB, hz, s0, s1, s2, s3, s4, s5, h0, h1, h2, h3, h4, h5, h6, h7, h8, h9, h10, h11, h12, h13, h14, h15⟩ K hK
              refine wp_load_any 25 _ rfl _ rfl 64 25 _ s3 _ Try.underlying25 rfl Try.size25 ?_
              exact hK _ _ _ rfl ⟨hB, hz, s0, s1, s2, s3, s4, s5, h0, h1, h2, h3, h4, h5, h6, h7, h8, h9, h10, h11, (fun _ => rfl), h13, h14, h15⟩
            · intro L v W16 hd hn ⟨hB, hz, s0, s1, s2, s3, s4, s5, h0, h1, h2, h3, h4, h5, h6, h7, h8, h9, h10, h11, h12, h13, h14, h15⟩ K hK
              have e0 := h0 (hd ⟨0, .data⟩ (by simp) rfl)
              have e4 := h4 (hd ⟨4, .data⟩ (by simp) rfl)
              have e11 := h11 (hd ⟨11, .data⟩ (by simp) rfl)
              have e12 := h12 (hd ⟨12, .data⟩ (by simp) rfl)
              go_wp2_with (go_at_call 208; refine (HMM.out _).mono ?_; rintro e wy ⟨rfl, hy⟩)
              exact hK _ (.agg (bcells 64 (rfT n fa fm fb fn))) _ (by simp only [Act.put, List.setIfInBounds_toArray, List.set_cons_zero, List.set_cons_succ, e0, e4, e11, e12]) ⟨hB.trans (hy.mono hB.size), (Nat.le_trans hz hy.size), (s0).below hy (s0).lt, (s1).below hy (s1).lt, (s2).below hy (s2).lt, (s3).below hy (s3).lt, (s4).below hy (s4).lt, (s5).below hy (s5).lt, h0, h1, h2, h3, h4, h5, h6, h7, h8, h9, h10, h11, h12, (fun _ => rfl), (fun h => (h14 h).below hy), (fun h => (h15 h).below hy)⟩
            · intro L v W16 hd hn ⟨hB, hz, s0, s1, s2, s3, s4, s5, h0, h1, h2, h3, h4, h5, h6, h7, h8, h9, h10, h11, h12, h13, h14, h15⟩ K hK
              go_wp2_with fail
              rw [← zero64]
              exact hK _ (.pointer (some ⟨W16.heap.size, 0, none⟩)) _ (by simp only [Act.put, List.setIfInBounds_toArray, List.set_cons_zero, List.set_cons_succ ]) ⟨hB.alloc hB.size _, (by simp; omega), (s0).alloc _, (s1).alloc _, (s2).alloc _, (s3).alloc _, (s4).alloc _, (s5).alloc _, h0, h1, h2, h3, h4, h5, h6, h7, h8, h9, h10, h11, h12, h13, (fun _ => (PF.new W16 64 25 _ hz).af), (fun h => absurd rfl (hn 15 _ rfl h ⟨14, .data⟩ (by simp) rfl))⟩
            · intro L v W16 hd hn ⟨hB, hz, s0, s1, s2, s3, s4, s5, h0, h1, h2, h3, h4, h5, h6, h7, h8, h9, h10, h11, h12, h13, h14, h15⟩ K hK
              have e13 := h13 (hd ⟨13, .data⟩ (by simp) rfl)
              obtain ⟨gz, b, ea, hN, hk⟩ := (h14 (hd ⟨14, .data⟩ (by simp) rfl)).out
              refine wp_store_blk 25 _ _ rfl b 64 (rfT n fa fm fb fn) ea e13 25 gz hk Try.size25 ?_
              exact hK _ undef _ rfl ⟨below_row hB (Nat.le_trans hbase hN) _, (by simpa [World.setRow] using hz), (s0).rowOther (by omega), (s1).rowOther (by omega), (s2).rowOther (by omega), (s3).rowOther (by omega), (s4).rowOther (by omega), (s5).rowOther (by omega), h0, h1, h2, h3, h4, h5, h6, h7, h8, h9, h10, h11, h12, h13, (fun h => (h14 h).row hk), (fun _ => by rw [show updV v 15 undef 14 = v 14 from rfl, ea]; exact PF.row hk hN _)⟩
          · intro L v W16 hL ⟨hB, hz, s0, s1, s2, s3, s4, s5, h0, h1, h2, h3, h4, h5, h6, h7, h8, h9, h10, h11, h12, h13, h14, h15⟩
            have e0 := h0 (hL 0 (by decide))
            have e1 := h1 (hL 1 (by decide))
            have e2 := h2 (hL 2 (by decide))
            have e3 := h3 (hL 3 (by decide))
            have e4 := h4 (hL 4 (by decide))
            have e5 := h5 (hL 5 (by decide))
            have e6 := h6 (hL 6 (by decide))
            have e7 := h7 (hL 7 (by decide))
            have e8 := h8 (hL 8 (by decide))
            have e9 := h9 (hL 9 (by decide))
            have e10 := h10 (hL 10 (by decide))
            have e11 := h11 (hL 11 (by decide))
            have e12 := h12 (hL 12 (by decide))
            have e13 := h13 (hL 13 (by decide))
            obtain ⟨k9_14, e14, hNk9_14, hk9_14⟩ := (h15 (hL 15 (by decide))).out
            clear hL h0 h1 h2 h3 h4 h5 h6 h7 h8 h9 h10 h11 h12 h13 h14 h15
            simp only [Exit.then, e0, e1, e2, e3, e4, e5, e6, e7, e8, e9, e10, e11, e12, e13, e14]
            clear e0 e1 e2 e3 e4 e5 e6 e7 e8 e9 e10 e11 e12 e13 e14
            clear B0
            have B0 := s0
            clear s0
            clear B1
            have B1 := s1
            clear s1
            clear B2
            have B2 := s2
            clear s2
            clear B3
            have B3 := s3
            clear s3
            clear B4
            have B4 := s4
            clear s4
            clear B5
            have B5 := s5
            clear s5
            clear hb
            have hb := hB
            clear hB
            have B6 := hk9_14
            clear hk9_14
            have zk9_14_0 : w.heap.size < k9_14 := by omega
            have zk9_14_1 : w.heap.size + 1 < k9_14 := by omega
            have zk9_14_2 : w.heap.size + 1 + 1 < k9_14 := by omega
            have zk9_14_3 : w.heap.size + 1 + 1 + 1 < k9_14 := by omega
            have zk9_14_4 : w.heap.size + 1 + 1 + 1 + 1 < k9_14 := by omega
            have zk9_14_5 : N1 < k9_14 := by omega
            clear hbase hz lt_B0 lt_B1 lt_B2 lt_B3 lt_B4 lt_B5
            go_upto_region 10 with (fail)
            have lt_B0 := B0.lt
            have lt_B1 := B1.lt
            have lt_B2 := B2.lt
            have lt_B3 := B3.lt
            have lt_B4 := B4.lt
            have lt_B5 := B5.lt
            have lt_B6 := B6.lt
            go_upto_region 11 with (first | rw [← zero64] | (refine wpList_load_any rfl 25 (.tmp 7) rfl _ rfl 64 25 _ (B1) _ Try.underlying25 rfl Try.size25 ?_) | (refine wpList_load_any rfl 25 (.tmp 14) rfl _ rfl 64 25 _ (B6) _ Try.underlying25 rfl Try.size25 ?_) | (go_at_call 146; refine (HTi.out _).mono ?_; rintro e W17 ⟨rfl, hW17⟩; replace B0 := B0.below hW17 B0.lt; replace B1 := B1.below hW17 B1.lt; replace B2 := B2.below hW17 B2.lt; replace B3 := B3.below hW17 B3.lt; replace B4 := B4.below hW17 B4.lt; replace B5 := B5.below hW17 B5.lt; replace B6 := B6.below hW17 B6.lt; replace hb := (hb).trans (hW17.mono (hb).size)) | (refine wpList_store_blk rfl 25 (.tmp 15) (.tmp 63) rfl _ 64 (prd n fm (rfT n fa fm fb fn)) rfl rfl 25 _ ((Blk.new W17 64 25 (fun _ => 0))) Try.size25 ?_; try simp only [Act.put]; go_upto_region 11 with (fail)))
            have lt_B0 := B0.lt
            have lt_B1 := B1.lt
            have lt_B2 := B2.lt
            have lt_B3 := B3.lt
            have lt_B4 := B4.lt
            have lt_B5 := B5.lt
            have lt_B6 := B6.lt
            have lhb := hb.size
            have qB0 : Blk ((W17.alloc (.cells (bcells 64 fun _ => 0) 25)).setRow (W17.heap.size) (bcells 64 (prd n fm (rfT n fa fm fb fn)))) (w.heap.size) 64 25 (fa) := ((B0.alloc (.cells (bcells 64 fun _ => 0) 25)).rowOther (by omega))
            have qB1 : Blk ((W17.alloc (.cells (bcells 64 fun _ => 0) 25)).setRow (W17.heap.size) (bcells 64 (prd n fm (rfT n fa fm fb fn)))) (w.heap.size + 1) 64 25 (fm) := ((B1.alloc (.cells (bcells 64 fun _ => 0) 25)).rowOther (by omega))
            have qB2 : Blk ((W17.alloc (.cells (bcells 64 fun _ => 0) 25)).setRow (W17.heap.size) (bcells 64 (prd n fm (rfT n fa fm fb fn)))) (w.heap.size + 1 + 1) 64 25 (fb) := ((B2.alloc (.cells (bcells 64 fun _ => 0) 25)).rowOther (by omega))
            have qB3 : Blk ((W17.alloc (.cells (bcells 64 fun _ => 0) 25)).setRow (W17.heap.size) (bcells 64 (prd n fm (rfT n fa fm fb fn)))) (w.heap.size + 1 + 1 + 1) 64 25 (fn) := ((B3.alloc (.cells (bcells 64 fun _ => 0) 25)).rowOther (by omega))
            have qB4 : Blk ((W17.alloc (.cells (bcells 64 fun _ => 0) 25)).setRow (W17.heap.size) (bcells 64 (prd n fm (rfT n fa fm fb fn)))) (w.heap.size + 1 + 1 + 1 + 1) 64 25 (fun _ => 0) := ((B4.alloc (.cells (bcells 64 fun _ => 0) 25)).rowOther (by omega))
            have qB5 : Blk ((W17.alloc (.cells (bcells 64 fun _ => 0) 25)).setRow (W17.heap.size) (bcells 64 (prd n fm (rfT n fa fm fb fn)))) (N1) 64 25 (resP n fa fm) := ((B5.alloc (.cells (bcells 64 fun _ => 0) 25)).rowOther (by omega))
            have qB6 : Blk ((W17.alloc (.cells (bcells 64 fun _ => 0) 25)).setRow (W17.heap.size) (bcells 64 (prd n fm (rfT n fa fm fb fn)))) (k9_14) 64 25 (rfT n fa fm fb fn) := ((B6.alloc (.cells (bcells 64 fun _ => 0) 25)).rowOther (by omega))
            have qB7 : Blk ((W17.alloc (.cells (bcells 64 fun _ => 0) 25)).setRow (W17.heap.size) (bcells 64 (prd n fm (rfT n fa fm fb fn)))) (W17.heap.size) 64 25 (prd n fm (rfT n fa fm fb fn)) := ((Blk.new W17 64 25 (fun _ => 0)).row (prd n fm (rfT n fa fm fb fn)))
            have qhb : Below w.heap.size w ((W17.alloc (.cells (bcells 64 fun _ => 0) 25)).setRow (W17.heap.size) (bcells 64 (prd n fm (rfT n fa fm fb fn)))) := (below_row (hb.alloc (by have := hb.size; simp; omega) (.cells (bcells 64 fun _ => 0) 25)) (by omega) _)
            obtain ⟨W18, hwo⟩ : ∃ v : World, v = ((W17.alloc (.cells (bcells 64 fun _ => 0) 25)).setRow (W17.heap.size) (bcells 64 (prd n fm (rfT n fa fm fb fn)))) := ⟨_, rfl⟩
            rw [← hwo] at qB0 qB1 qB2 qB3 qB4 qB5 qB6 qB7 qhb ⊢
            clear hwo
            clear B0 B1 B2 B3 B4 B5 B6 hb
            have B0 := qB0
            have B1 := qB1
            have B2 := qB2
            have B3 := qB3
            have B4 := qB4
            have B5 := qB5
            have B6 := qB6
            have B7 := qB7
            have hb := qhb
            clear qB0 qB1 qB2 qB3 qB4 qB5 qB6 qB7 qhb
            obtain ⟨N2, hNN⟩ : ∃ n : Nat, n = W17.heap.size := ⟨_, rfl⟩
            rw [← hNN] at lt_B0 lt_B1 lt_B2 lt_B3 lt_B4 lt_B5 lt_B6 lhb B7 ⊢
            clear hNN
            have zN2_0 := lt_B0
            have zN2_1 := lt_B1
            have zN2_2 := lt_B2
            have zN2_3 := lt_B3
            have zN2_4 := lt_B4
            have zN2_5 := lt_B5
            have zN2_6 := lt_B6
            have zN2 := lhb
            clear lt_B0 lt_B1 lt_B2 lt_B3 lt_B4 lt_B5 lt_B6 lhb
            try simp only [Act.put, List.setIfInBounds_toArray, List.set_cons_zero, List.set_cons_succ]
            have lt_B0 := B0.lt
            have lt_B1 := B1.lt
            have lt_B2 := B2.lt
            have lt_B3 := B3.lt
            have lt_B4 := B4.lt
            have lt_B5 := B5.lt
            have lt_B6 := B6.lt
            have lt_B7 := B7.lt
            go_wp2_with (first | rw [← zero64] | (refine wpList_load_any rfl 25 (.tmp 13) rfl _ rfl 64 25 _ (B5) _ Try.underlying25 rfl Try.size25 ?_) | (refine wpList_load_any rfl 25 (.tmp 15) rfl _ rfl 64 25 _ (B7) _ Try.underlying25 rfl Try.size25 ?_) | (go_at_call 157; refine (HFi.out _).mono ?_; rintro e W19 ⟨rfl, hW19⟩; replace B0 := B0.below hW19 B0.lt; replace B1 := B1.below hW19 B1.lt; replace B2 := B2.below hW19 B2.lt; replace B3 := B3.below hW19 B3.lt; replace B4 := B4.below hW19 B4.lt; replace B5 := B5.below hW19 B5.lt; replace B6 := B6.below hW19 B6.lt; replace B7 := B7.below hW19 B7.lt; replace hb := (hb).trans (hW19.mono (hb).size)) | (refine wpList_store_blk rfl 25 (.tmp 10) (.tmp 68) rfl _ 64 (rfR n fa fm fb fn) rfl rfl 25 _ (B4) Try.size25 ?_; try simp only [Act.put]; go_wp2_with fail))
            have qB0 : Blk (W19.setRow (w.heap.size + 1 + 1 + 1 + 1) (bcells 64 (rfR n fa fm fb fn))) (w.heap.size) 64 25 (fa) := (B0.rowOther (by omega))
            have qB1 : Blk (W19.setRow (w.heap.size + 1 + 1 + 1 + 1) (bcells 64 (rfR n fa fm fb fn))) (w.heap.size + 1) 64 25 (fm) := (B1.rowOther (by omega))
            have qB2 : Blk (W19.setRow (w.heap.size + 1 + 1 + 1 + 1) (bcells 64 (rfR n fa fm fb fn))) (w.heap.size + 1 + 1) 64 25 (fb) := (B2.rowOther (by omega))
            have qB3 : Blk (W19.setRow (w.heap.size + 1 + 1 + 1 + 1) (bcells 64 (rfR n fa fm fb fn))) (w.heap.size + 1 + 1 + 1) 64 25 (fn) := (B3.rowOther (by omega))
            have qB4 : Blk (W19.setRow (w.heap.size + 1 + 1 + 1 + 1) (bcells 64 (rfR n fa fm fb fn))) (w.heap.size + 1 + 1 + 1 + 1) 64 25 (rfR n fa fm fb fn) := (B4.row (rfR n fa fm fb fn))
            have qB5 : Blk (W19.setRow (w.heap.size + 1 + 1 + 1 + 1) (bcells 64 (rfR n fa fm fb fn))) (N1) 64 25 (resP n fa fm) := (B5.rowOther (by omega))
            have qB6 : Blk (W19.setRow (w.heap.size + 1 + 1 + 1 + 1) (bcells 64 (rfR n fa fm fb fn))) (k9_14) 64 25 (rfT n fa fm fb fn) := (B6.rowOther (by omega))
            have qB7 : Blk (W19.setRow (w.heap.size + 1 + 1 + 1 + 1) (bcells 64 (rfR n fa fm fb fn))) (N2) 64 25 (prd n fm (rfT n fa fm fb fn)) := (B7.rowOther (by omega))
            have qhb : Below w.heap.size w (W19.setRow (w.heap.size + 1 + 1 + 1 + 1) (bcells 64 (rfR n fa fm fb fn))) := (below_row hb (by omega) _)
            obtain ⟨W20, hwo⟩ : ∃ v : World, v = (W19.setRow (w.heap.size + 1 + 1 + 1 + 1) (bcells 64 (rfR n fa fm fb fn))) := ⟨_, rfl⟩
            rw [← hwo] at qB0 qB1 qB2 qB3 qB4 qB5 qB6 qB7 qhb ⊢
            clear hwo
            clear B0 B1 B2 B3 B4 B5 B6 B7 hb
            have B0 := qB0
            have B1 := qB1
            have B2 := qB2
            have B3 := qB3
            have B4 := qB4
            have B5 := qB5
            have B6 := qB6
            have B7 := qB7
            have hb := qhb
            clear qB0 qB1 qB2 qB3 qB4 qB5 qB6 qB7 qhb
            try simp only [Act.put, List.setIfInBounds_toArray, List.set_cons_zero, List.set_cons_succ]
            refine bodyPost_ret (results_bt rfl _ _ _ 64 25 5 _ rfl B4 Try.underlying25 Try.size25) rfl ⟨by first | (rw [HV.out]; rfl) | rw [HV.out], hb⟩
  · have HV := Lib.hid (rfV_1 hc)
    rw [show modV p fm [fa, fb, fn] = 1 by rcases code4_bad hc with h | h; exact modV_1 h; exact modV_2 h]
    clear hc
    go_upto_region 4 with (fail)
    go_upto_region 5 with (fail)
    have lt_B0 := B0.lt
    have lt_B1 := B1.lt
    have lt_B2 := B2.lt
    have lt_B3 := B3.lt
    have lt_B4 := B4.lt
    go_wp2_with (first | rw [← zero64] | (refine wpList_store_blk rfl 25 (.tmp 10) (.tmp 31) rfl _ 64 (fun _ => 0) rfl rfl 25 _ (B4) Try.size25 ?_; try simp only [Act.put]; go_wp2_with fail))
    have qB0 : Blk (W2.setRow (w.heap.size + 1 + 1 + 1 + 1) (bcells 64 (fun _ => 0))) (w.heap.size) 64 25 (fa) := (B0.rowOther (by omega))
    have qB1 : Blk (W2.setRow (w.heap.size + 1 + 1 + 1 + 1) (bcells 64 (fun _ => 0))) (w.heap.size + 1) 64 25 (fm) := (B1.rowOther (by omega))
    have qB2 : Blk (W2.setRow (w.heap.size + 1 + 1 + 1 + 1) (bcells 64 (fun _ => 0))) (w.heap.size + 1 + 1) 64 25 (fb) := (B2.rowOther (by omega))
    have qB3 : Blk (W2.setRow (w.heap.size + 1 + 1 + 1 + 1) (bcells 64 (fun _ => 0))) (w.heap.size + 1 + 1 + 1) 64 25 (fn) := (B3.rowOther (by omega))
    have qB4 : Blk (W2.setRow (w.heap.size + 1 + 1 + 1 + 1) (bcells 64 (fun _ => 0))) (w.heap.size + 1 + 1 + 1 + 1) 64 25 (fun _ => 0) := (B4.row (fun _ => 0))
    have qhb : Below w.heap.size w (W2.setRow (w.heap.size + 1 + 1 + 1 + 1) (bcells 64 (fun _ => 0))) := (below_row hb (by omega) _)
    obtain ⟨W11, hwo⟩ : ∃ v : World, v = (W2.setRow (w.heap.size + 1 + 1 + 1 + 1) (bcells 64 (fun _ => 0))) := ⟨_, rfl⟩
    rw [← hwo] at qB0 qB1 qB2 qB3 qB4 qhb ⊢
    clear hwo
    clear B0 B1 B2 B3 B4 hb
    have B0 := qB0
    have B1 := qB1
    have B2 := qB2
    have B3 := qB3
    have B4 := qB4
    have hb := qhb
    clear qB0 qB1 qB2 qB3 qB4 qhb
    try simp only [Act.put, List.setIfInBounds_toArray, List.set_cons_zero, List.set_cons_succ]
    refine bodyPost_ret (results_bt rfl _ _ _ 64 25 5 _ rfl B4 Try.underlying25 Try.size25) rfl ⟨by first | (rw [HV.out]; rfl) | rw [HV.out], hb⟩
end Go.Proofs.Ytkaaffccklkafaa
