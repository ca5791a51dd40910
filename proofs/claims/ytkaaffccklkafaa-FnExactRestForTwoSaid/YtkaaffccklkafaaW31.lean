/-
  Walks: rests for two moduli.
-/
import Derived.Test.YtkaaffccklkafaaW30
namespace Go.Proofs.Ytkaaffccklkafaa
open Go.RowKit
set_option linter.unusedVariables false
set_option linter.unusedSimpArgs false
attribute [local irreducible] deg invN dS qS stp stpr quoP resP oneP upP upF hmR mmP shA addK bzD bzU bzW
theorem l01Code_nil (p : Int) (w : World) (hp : okP p = true) : Calls Try.prog 145 #[.int .i64 p, .slice none 0 0] w fun e w' => e = .returned (.int .i64 0) ∧ w = w' := by
  go_enter Try.func145, Try.ntmps145
  go_wp2_with (go_at_call 173; refine (l01Prime_any _ _).mono ?_; rintro e w' ⟨rfl, rfl⟩)
  go_loopw [5] (fun i wr => i = .int .i64 0 ∧ wr = w) (fun _ _ => 0)
  case atStart => exact ⟨rfl, rfl⟩
  case round =>
    obtain ⟨rfl, rfl⟩ := hrel
    go_wp2_with fail
    go_ret
    exact ⟨rfl, rfl⟩
def nilV (m : Nat → Nat) : Int := if monUp 5 m = true then 0 else 2
theorem codeL_nil {p : Int} (h : okP p = true) : codeL p [] = 0 := by simp [codeL, h]
set_option maxRecDepth 100000 in
set_option maxHeartbeats 800000 in
theorem l02Modulus_nil (p : Int) (m : Nat → Nat) (hmb : byte m) (w : World) (hc1 : codeL p [m] = 0) :
    Calls Try.prog 198 #[.int .i64 p, .agg (bcells 64 m), .slice none 0 0] w fun e w' => e = .returned (.int .i64 (nilV m)) ∧ Below w.heap.size w w' := by
  obtain ⟨fb1, fb2⟩ := deg_bounds m
  have hok := (codeL_zero hc1).1
  go_enter Try.func198, Try.ntmps198
  go_upto_region 1 with (fail)
  obtain ⟨W1, hwo⟩ : ∃ v : World, v = (w.alloc (.cells (bcells 64 (m)) 25)) := ⟨_, rfl⟩
  have B0 : Blk W1 (w.heap.size) 64 25 (m) := by subst hwo; have := (Blk.new w 64 25 (m)); simpa using this
  have hb : Below w.heap.size w W1 := by subst hwo; exact ((Below.refl _ _).alloc (Nat.le_refl _) _)
  rw [← hwo]
  clear hwo
  cases hm5 : monUp 5 m with
  | false =>
    go_upto_region 3 with (first | (refine wpList_load_any rfl 25 (.tmp 4) rfl _ rfl 64 25 _ B0 _ Try.underlying25 rfl Try.size25 ?_) | (refine wpList_build_polys rfl 57 _ [m] rfl 25 rfl Try.underlying57 Try.elem25 (by simp) (by simp) rfl ?_; intro wa hwa hps hba; clear hwa) | (go_at_call 145; refine (l01Code_any p [m] (by simp [hmb]) _ _ hps (by simp)).mono ?_; rintro e W2 ⟨rfl, hbb⟩; replace B0 := B0.below (hba.trans (hbb.mono hba.size)) B0.lt; replace hb := hb.trans ((hba.trans (hbb.mono hba.size)).mono hb.size); clear hps; rw [hc1]) | (go_at_call 145; refine (l01Code_nil p _ hok).mono ?_; rintro e wS ⟨rfl, rfl⟩))
    clear hba hbb
    have HV := Lib.hid (show nilV m = 2 by unfold nilV; rw [hm5]; rfl)
    cases hmo : monB m with
    | false =>
      go_upto_region 4 with (first | (refine wpList_load_any rfl 25 (.tmp 4) rfl _ rfl 64 25 _ (B0) _ Try.underlying25 rfl Try.size25 ?_) | (go_at_call 195; refine (l01Monic_any m hmb _).mono ?_; rintro e W2 ⟨rfl, hW2⟩; replace B0 := B0.below hW2 B0.lt; replace hb := (hb).trans (hW2.mono (hb).size); rw [hmo]))
      go_wp2_with fail
      go_ret
      exact ⟨ret_int HV.out.symm, hb⟩
    | true =>
      have hnr : ¬ (1 ≤ deg m ∧ deg m ≤ 5) := by intro h; rw [monUp_B, hmo] at hm5; simp at hm5; omega
      go_upto_region 4 with (first | (refine wpList_load_any rfl 25 (.tmp 4) rfl _ rfl 64 25 _ (B0) _ Try.underlying25 rfl Try.size25 ?_) | (go_at_call 195; refine (l01Monic_any m hmb _).mono ?_; rintro e W2 ⟨rfl, hW2⟩; replace B0 := B0.below hW2 B0.lt; replace hb := (hb).trans (hW2.mono (hb).size); rw [hmo]) | (refine wpList_load_any_g rfl 25 (.tmp 4) rfl _ rfl 64 25 _ (B0) _ Try.underlying25 rfl Try.size25 ?_) | (go_at_call 151; refine (l01Deg_any m _).mono ?_; rintro e W3 ⟨rfl, hW3⟩; replace B0 := B0.below hW3 B0.lt; replace hb := (hb).trans (hW3.mono (hb).size)) | (go_at_call 164; refine (l01In_no (deg m) 1 5 hnr _).mono ?_; rintro e wS ⟨rfl, rfl⟩))
      go_wp2_with fail
      go_ret
      exact ⟨ret_int HV.out.symm, hb⟩
  | true =>
    go_upto_region 3 with (first | (refine wpList_load_any rfl 25 (.tmp 4) rfl _ rfl 64 25 _ B0 _ Try.underlying25 rfl Try.size25 ?_) | (refine wpList_build_polys rfl 57 _ [m] rfl 25 rfl Try.underlying57 Try.elem25 (by simp) (by simp) rfl ?_; intro wa hwa hps hba; clear hwa) | (go_at_call 145; refine (l01Code_any p [m] (by simp [hmb]) _ _ hps (by simp)).mono ?_; rintro e W2 ⟨rfl, hbb⟩; replace B0 := B0.below (hba.trans (hbb.mono hba.size)) B0.lt; replace hb := hb.trans ((hba.trans (hbb.mono hba.size)).mono hb.size); clear hps; rw [hc1]) | (go_at_call 145; refine (l01Code_nil p _ hok).mono ?_; rintro e wS ⟨rfl, rfl⟩))
    clear hba hbb
    have HV := Lib.hid (show nilV m = 0 by unfold nilV; rw [hm5]; rfl)
    have hmo : monB m = true := by cases h : monB m with | true => rfl | false => rw [monUp_B, h] at hm5; simp at hm5
    have hyr : 1 ≤ deg m ∧ deg m ≤ 5 := by rw [monUp_B, hmo] at hm5; simpa using hm5
    go_upto_region 5 with (first | (refine wpList_load_any rfl 25 (.tmp 4) rfl _ rfl 64 25 _ (B0) _ Try.underlying25 rfl Try.size25 ?_) | (go_at_call 195; refine (l01Monic_any m hmb _).mono ?_; rintro e W2 ⟨rfl, hW2⟩; replace B0 := B0.below hW2 B0.lt; replace hb := (hb).trans (hW2.mono (hb).size); rw [hmo]) | (refine wpList_load_any_g rfl 25 (.tmp 4) rfl _ rfl 64 25 _ (B0) _ Try.underlying25 rfl Try.size25 ?_) | (go_at_call 151; refine (l01Deg_any m _).mono ?_; rintro e W3 ⟨rfl, hW3⟩; replace B0 := B0.below hW3 B0.lt; replace hb := (hb).trans (hW3.mono (hb).size)) | (go_at_call 164; refine (l01In_yes (deg m) 1 5 hyr _).mono ?_; rintro e wS ⟨rfl, rfl⟩))
    go_wp2_with fail
    go_ret
    exact ⟨ret_int HV.out.symm, hb⟩
/-- the rest for two moduli -/
def rfT (p : Nat) (fa fm fb fn : Nat → Nat) : Nat → Nat := mmP p (bzU p fm fn) (subP p fb (resP p fa fm)) fn
def rfR (p : Nat) (fa fm fb fn : Nat → Nat) : Nat → Nat := fun i => (resP p fa fm i + prd p fm (rfT p fa fm fb fn) i) % p
def rfV (p : Int) (fa fm fb fn : Nat → Nat) : (Nat → Nat) × Int := if codeL p [fa, fm, fb, fn] = 0 then (if monUp 5 fm = true ∧ monUp 5 fn = true then (if eqN 64 (bzD p.toNat fm fn) oneP = true then (rfR p.toNat fa fm fb fn, 0) else (fun _ => 0, 5)) else (fun _ => 0, 2)) else (fun _ => 0, 1)
theorem rfV_1 {p : Int} {fa fm fb fn : Nat → Nat} (h : codeL p [fa, fm, fb, fn] = 1) : rfV p fa fm fb fn = (fun _ => 0, 1) := by unfold rfV; rw [if_neg (by rw [h]; decide)]
theorem rfV_2 {p : Int} {fa fm fb fn : Nat → Nat} (h : codeL p [fa, fm, fb, fn] = 0) (h2 : ¬ (monUp 5 fm = true ∧ monUp 5 fn = true)) : rfV p fa fm fb fn = (fun _ => 0, 2) := by unfold rfV; rw [if_pos h, if_neg h2]
theorem rfV_5 {n : Nat} {fa fm fb fn : Nat → Nat} (h : codeL (n : Int) [fa, fm, fb, fn] = 0) (h2 : monUp 5 fm = true ∧ monUp 5 fn = true) (h3 : eqN 64 (bzD n fm fn) oneP = false) : rfV (n : Int) fa fm fb fn = (fun _ => 0, 5) := by
  unfold rfV; rw [if_pos h, if_pos h2, Int.toNat_natCast, if_neg (by rw [h3]; simp)]
theorem rfV_0 {n : Nat} {fa fm fb fn : Nat → Nat} (h : codeL (n : Int) [fa, fm, fb, fn] = 0) (h2 : monUp 5 fm = true ∧ monUp 5 fn = true) (h3 : eqN 64 (bzD n fm fn) oneP = true) : rfV (n : Int) fa fm fb fn = (rfR n fa fm fb fn, 0) := by
  unfold rfV; rw [if_pos h, if_pos h2, Int.toNat_natCast, if_pos h3]
theorem code4 {p : Int} {fa fm fb fn : Nat → Nat} (h : codeL p [fa, fm, fb, fn] = 0) : codeL p [fm] = 0 ∧ codeL p [fa, fb, fn] = 0 ∧ codeL p [fn] = 0 := by
  obtain ⟨h1, h2⟩ := codeL_zero h
  have a := h2 fa (by simp); have b := h2 fm (by simp); have c := h2 fb (by simp); have d := h2 fn (by simp)
  simp [codeL, h1, a, b, c, d]
theorem code4_bad {p : Int} {fa fm fb fn : Nat → Nat} (h : codeL p [fa, fm, fb, fn] = 1) : codeL p [fm] = 1 ∨ codeL p [fa, fb, fn] = 1 := by
  rcases codeL_two p [fm] with h1 | h1
  · rcases codeL_two p [fa, fb, fn] with h2 | h2
    · exfalso
      obtain ⟨a1, a2⟩ := codeL_zero h1
      obtain ⟨b1, b2⟩ := codeL_zero h2
      have a := b2 fa (by simp); have b := a2 fm (by simp); have c := b2 fb (by simp); have d := b2 fn (by simp)
      have : codeL p [fa, fm, fb, fn] = 0 := by simp [codeL, a1, a, b, c, d]
      omega
    · exact .inr h2
  · exact .inl h1
set_option maxRecDepth 100000 in
set_option maxHeartbeats 1600000 in
theorem impl_RestForTwo_any (p : Int) (fa fm fb fn : Nat → Nat) (hfa : byte fa) (hfm : byte fm) (hfb : byte fb) (hfn : byte fn) (w : World) :
    Calls Try.prog 125 #[.int .i64 p, .agg (bcells 64 fa), .agg (bcells 64 fm), .agg (bcells 64 fb), .agg (bcells 64 fn)] w fun e w' => e = .returned (.tuple #[.agg (bcells 64 (rfV p fa fm fb fn).1), .int .i64 (rfV p fa fm fb fn).2]) ∧ Below w.heap.size w w' := by
  go_enter Try.func125, Try.ntmps125
  go_upto_region 1 with (fail)
  rw [← zero64]
  obtain ⟨W1, hwo⟩ : ∃ v : World, v = (((((w.alloc (.cells (bcells 64 (fa)) 25)).alloc (.cells (bcells 64 (fm)) 25)).alloc (.cells (bcells 64 (fb)) 25)).alloc (.cells (bcells 64 (fn)) 25)).alloc (.cells (bcells 64 fun _ => 0) 25)) := ⟨_, rfl⟩
  have B0 : Blk W1 (w.heap.size) 64 25 (fa) := by subst hwo; have := (((((Blk.new w 64 25 (fa)).alloc (.cells (bcells 64 (fm)) 25)).alloc (.cells (bcells 64 (fb)) 25)).alloc (.cells (bcells 64 (fn)) 25)).alloc (.cells (bcells 64 fun _ => 0) 25)); simpa using this
  have B1 : Blk W1 (w.heap.size + 1) 64 25 (fm) := by subst hwo; have := ((((Blk.new (w.alloc (.cells (bcells 64 (fa)) 25)) 64 25 (fm)).alloc (.cells (bcells 64 (fb)) 25)).alloc (.cells (bcells 64 (fn)) 25)).alloc (.cells (bcells 64 fun _ => 0) 25)); simpa using this
  have B2 : Blk W1 (w.heap.size + 1 + 1) 64 25 (fb) := by subst hwo; have := (((Blk.new ((w.alloc (.cells (bcells 64 (fa)) 25)).alloc (.cells (bcells 64 (fm)) 25)) 64 25 (fb)).alloc (.cells (bcells 64 (fn)) 25)).alloc (.cells (bcells 64 fun _ => 0) 25)); simpa using this
  have B3 : Blk W1 (w.heap.size + 1 + 1 + 1) 64 25 (fn) := by subst hwo; have := ((Blk.new (((w.alloc (.cells (bcells 64 (fa)) 25)).alloc (.cells (bcells 64 (fm)) 25)).alloc (.cells (bcells 64 (fb)) 25)) 64 25 (fn)).alloc (.cells (bcells 64 fun _ => 0) 25)); simpa using this
  have B4 : Blk W1 (w.heap.size + 1 + 1 + 1 + 1) 64 25 (fun _ => 0) := by subst hwo; have := (Blk.new ((((w.alloc (.cells (bcells 64 (fa)) 25)).alloc (.cells (bcells 64 (fm)) 25)).alloc (.cells (bcells 64 (fb)) 25)).alloc (.cells (bcells 64 (fn)) 25)) 64 25 (fun _ => 0)); simpa using this
  have hb : Below w.heap.size w W1 := by subst hwo; exact ((((((Below.refl _ _).alloc (Nat.le_refl _) _).alloc (by simp) _).alloc (by simp; omega) _).alloc (by simp; omega) _).alloc (by simp; omega) _)
  rw [← hwo]
  clear hwo
  go_upto_region 2 with (first | (refine wpList_load_any rfl 25 (.tmp 6) rfl _ rfl 64 25 _ B0 _ Try.underlying25 rfl Try.size25 ?_) | (refine wpList_load_any rfl 25 (.tmp 7) rfl _ rfl 64 25 _ B1 _ Try.underlying25 rfl Try.size25 ?_) | (refine wpList_load_any rfl 25 (.tmp 8) rfl _ rfl 64 25 _ B2 _ Try.underlying25 rfl Try.size25 ?_) | (refine wpList_load_any rfl 25 (.tmp 9) rfl _ rfl 64 25 _ B3 _ Try.underlying25 rfl Try.size25 ?_) | (refine wpList_build_polys rfl 57 _ [fa, fm, fb, fn] rfl 25 rfl Try.underlying57 Try.elem25 (by simp) (by simp) rfl ?_; intro wa hwa hps hba; clear hwa) | (go_at_call 142; refine (checkPolys_any p [fa, fm, fb, fn] (by simp [hfa, hfm, hfb, hfn]) _ _ hps (by simp)).mono ?_; rintro e W2 ⟨rfl, hbb⟩))
  have hBB : Below W1.heap.size W1 W2 := hba.trans (hbb.mono hba.size)
  replace B0 := B0.below hBB B0.lt
  replace B1 := B1.below hBB B1.lt
  replace B2 := B2.below hBB B2.lt
  replace B3 := B3.below hBB B3.lt
  replace B4 := B4.below hBB B4.lt
  replace hb := hb.trans (hBB.mono hb.size)
  clear hBB hba hbb hps
  rcases codeL_two p [fa, fm, fb, fn] with hc | hc
  · obtain ⟨n, hn, n2, n7⟩ := okP_nat (codeL_zero hc).1
    subst hn
    have la := lt_of_code hc (f := fa) (by simp)
    have lm := lt_of_code hc (f := fm) (by simp)
    have lb := lt_of_code hc (f := fb) (by simp)
    have ln' := lt_of_code hc (f := fn) (by simp)
    have hpr := prime_of hc
    have p0 : 0 < n := by omega
    cases hm5 : monUp 5 fm with
    | false =>
      have HV := Lib.hid (rfV_2 hc (fun h => by rw [hm5] at h; exact absurd h.1 (by simp)))
      rw [hc]
      clear hc
      go_upto_region 4 with (fail)
      go_upto_region 5 with (first | (refine wpList_load_any rfl 25 (.tmp 7) rfl _ rfl 64 25 _ (B1) _ Try.underlying25 rfl Try.size25 ?_) | (go_at_call 214; refine (isModulus_any fm hfm _).mono ?_; rintro e W3 ⟨rfl, hW3⟩; replace B0 := B0.below hW3 B0.lt; replace B1 := B1.below hW3 B1.lt; replace B2 := B2.below hW3 B2.lt; replace B3 := B3.below hW3 B3.lt; replace B4 := B4.below hW3 B4.lt; replace hb := (hb).trans (hW3.mono (hb).size); rw [hm5]))
      have lt_B0 := B0.lt
      have lt_B1 := B1.lt
      have lt_B2 := B2.lt
      have lt_B3 := B3.lt
      have lt_B4 := B4.lt
      go_wp2_with (first | rw [← zero64] | (refine wpList_store_blk rfl 25 (.tmp 10) (.tmp 36) rfl _ 64 (fun _ => 0) rfl rfl 25 _ (B4) Try.size25 ?_; try simp only [Act.put]; go_wp2_with fail))
      have qB0 : Blk (W3.setRow (w.heap.size + 1 + 1 + 1 + 1) (bcells 64 (fun _ => 0))) (w.heap.size) 64 25 (fa) := (B0.rowOther (by omega))
      have qB1 : Blk (W3.setRow (w.heap.size + 1 + 1 + 1 + 1) (bcells 64 (fun _ => 0))) (w.heap.size + 1) 64 25 (fm) := (B1.rowOther (by omega))
      have qB2 : Blk (W3.setRow (w.heap.size + 1 + 1 + 1 + 1) (bcells 64 (fun _ => 0))) (w.heap.size + 1 + 1) 64 25 (fb) := (B2.rowOther (by omega))
      have qB3 : Blk (W3.setRow (w.heap.size + 1 + 1 + 1 + 1) (bcells 64 (fun _ => 0))) (w.heap.size + 1 + 1 + 1) 64 25 (fn) := (B3.rowOther (by omega))
      have qB4 : Blk (W3.setRow (w.heap.size + 1 + 1 + 1 + 1) (bcells 64 (fun _ => 0))) (w.heap.size + 1 + 1 + 1 + 1) 64 25 (fun _ => 0) := (B4.row (fun _ => 0))
      have qhb : Below w.heap.size w (W3.setRow (w.heap.size + 1 + 1 + 1 + 1) (bcells 64 (fun _ => 0))) := (below_row hb (by omega) _)
      obtain ⟨W4, hwo⟩ : ∃ v : World, v = (W3.setRow (w.heap.size + 1 + 1 + 1 + 1) (bcells 64 (fun _ => 0))) := ⟨_, rfl⟩
      rw [← hwo] at qB0 qB1 qB2 qB3 qB4 qhb ⊢
      clear hwo
      clear B0 B1 B2 B3 B4 hb
      have B0 := qB0
      have B1 := qB1
      have B2 := qB2
      have B3 := qB3
      have B4 := qB4
      have hb := qhb
      clear qB0 qB1 qB2 qB3 qB4 qhb
      try simp only [Act.put, List.setIfInBounds_toArray, List.set_cons_zero, List.set_cons_succ]
      refine bodyPost_ret (results_bt rfl _ _ _ 64 25 5 _ rfl B4 Try.underlying25 Try.size25) rfl ⟨by first | (rw [HV.out]; rfl) | rw [HV.out], hb⟩
    | true =>
      cases hn5 : monUp 5 fn with
      | false =>
        have HV := Lib.hid (rfV_2 hc (fun h => by rw [hn5] at h; exact absurd h.2 (by simp)))
        rw [hc]
        clear hc
        go_upto_region 4 with (fail)
        have HF := Lib.hid (fun W => isModulus_any fm hfm W)
        have HG := Lib.hid (fun W => isModulus_any fn hfn W)
        rw [hm5] at HF
        rw [hn5] at HG
        go_upto_region 5 with (first | (refine wpList_load_any rfl 25 (.tmp 7) rfl _ rfl 64 25 _ B1 _ Try.underlying25 rfl Try.size25 ?_) | (refine wpList_load_any_g rfl 25 (.tmp 9) rfl _ rfl 64 25 _ B3 _ Try.underlying25 rfl Try.size25 ?_) | (go_at_call 214; refine (HF.out _).mono ?_; rintro e W3 ⟨rfl, hA⟩; replace B0 := B0.below hA B0.lt; replace B1 := B1.below hA B1.lt; replace B2 := B2.below hA B2.lt; replace B3 := B3.below hA B3.lt; replace B4 := B4.below hA B4.lt; replace hb := hb.trans (hA.mono hb.size); clear HF) | (go_at_call 214; refine (HG.out _).mono ?_; rintro e W4 ⟨rfl, hA2⟩; replace B0 := B0.below hA2 B0.lt; replace B1 := B1.below hA2 B1.lt; replace B2 := B2.below hA2 B2.lt; replace B3 := B3.below hA2 B3.lt; replace B4 := B4.below hA2 B4.lt; replace hb := hb.trans (hA2.mono hb.size); clear HG))
        have lt_B0 := B0.lt
        have lt_B1 := B1.lt
        have lt_B2 := B2.lt
        have lt_B3 := B3.lt
        have lt_B4 := B4.lt
        go_wp2_with (first | rw [← zero64] | (refine wpList_store_blk rfl 25 (.tmp 10) (.tmp 36) rfl _ 64 (fun _ => 0) rfl rfl 25 _ (B4) Try.size25 ?_; try simp only [Act.put]; go_wp2_with fail))
        have qB0 : Blk (W4.setRow (w.heap.size + 1 + 1 + 1 + 1) (bcells 64 (fun _ => 0))) (w.heap.size) 64 25 (fa) := (B0.rowOther (by omega))
        have qB1 : Blk (W4.setRow (w.heap.size + 1 + 1 + 1 + 1) (bcells 64 (fun _ => 0))) (w.heap.size + 1) 64 25 (fm) := (B1.rowOther (by omega))
        have qB2 : Blk (W4.setRow (w.heap.size + 1 + 1 + 1 + 1) (bcells 64 (fun _ => 0))) (w.heap.size + 1 + 1) 64 25 (fb) := (B2.rowOther (by omega))
        have qB3 : Blk (W4.setRow (w.heap.size + 1 + 1 + 1 + 1) (bcells 64 (fun _ => 0))) (w.heap.size + 1 + 1 + 1) 64 25 (fn) := (B3.rowOther (by omega))
        have qB4 : Blk (W4.setRow (w.heap.size + 1 + 1 + 1 + 1) (bcells 64 (fun _ => 0))) (w.heap.size + 1 + 1 + 1 + 1) 64 25 (fun _ => 0) := (B4.row (fun _ => 0))
        have qhb : Below w.heap.size w (W4.setRow (w.heap.size + 1 + 1 + 1 + 1) (bcells 64 (fun _ => 0))) := (below_row hb (by omega) _)
        obtain ⟨W5, hwo⟩ : ∃ v : World, v = (W4.setRow (w.heap.size + 1 + 1 + 1 + 1) (bcells 64 (fun _ => 0))) := ⟨_, rfl⟩
        rw [← hwo] at qB0 qB1 qB2 qB3 qB4 qhb ⊢
        clear hwo
        clear B0 B1 B2 B3 B4 hb
        have B0 := qB0
        have B1 := qB1
        have B2 := qB2
        have B3 := qB3
        have B4 := qB4
        have hb := qhb
        clear qB0 qB1 qB2 qB3 qB4 qhb
        try simp only [Act.put, List.setIfInBounds_toArray, List.set_cons_zero, List.set_cons_succ]
        refine bodyPost_ret (results_bt rfl _ _ _ 64 25 5 _ rfl B4 Try.underlying25 Try.size25) rfl ⟨by first | (rw [HV.out]; rfl) | rw [HV.out], hb⟩
      | true =>
        obtain ⟨dm, hmonm, dm1, dm5⟩ := mon_up hm5
        obtain ⟨dn, hmonn, dn1, dn5⟩ := mon_up hn5
        have m0 : 0 ≤ deg fm := by rw [hmonm.1]; omega
        have n0 : 0 ≤ deg fn := by rw [hmonn.1]; omega
        have la' : ∀ k, k < 64 → resP n fa fm k < n := resP_lt p0 la
        cases hu : eqN 64 (bzD n fm fn) oneP with
        | false =>
          have HV := Lib.hid (rfV_5 hc ⟨hm5, hn5⟩ hu)
          have HB := Lib.hid (fun W => bezout_any n fm fn W hpr lm ln' (.inr n0))
          have hgd := Try.noGuard25
          have heq := fun W => run_equalIn_bytes (P := Try.prog) W 9998 25 5 64 (bzD n fm fn) oneP Try.underlying25 Try.underlying5 Try.size5
          rw [hu] at heq
          simp only [one64] at heq
          rw [hc]
          clear hc hu hmonm hmonn dm1 dm5 dn1 dn5
          go_upto_region 4 with (fail)
          have HF := Lib.hid (fun W => isModulus_any fm hfm W)
          have HG := Lib.hid (fun W => isModulus_any fn hfn W)
          rw [hm5] at HF
          rw [hn5] at HG
          go_upto_region 6 with (first | (refine wpList_load_any rfl 25 (.tmp 7) rfl _ rfl 64 25 _ B1 _ Try.underlying25 rfl Try.size25 ?_) | (refine wpList_load_any_g rfl 25 (.tmp 9) rfl _ rfl 64 25 _ B3 _ Try.underlying25 rfl Try.size25 ?_) | (go_at_call 214; refine (HF.out _).mono ?_; rintro e W3 ⟨rfl, hA⟩; replace B0 := B0.below hA B0.lt; replace B1 := B1.below hA B1.lt; replace B2 := B2.below hA B2.lt; replace B3 := B3.below hA B3.lt; replace B4 := B4.below hA B4.lt; replace hb := hb.trans (hA.mono hb.size); clear HF) | (go_at_call 214; refine (HG.out _).mono ?_; rintro e W4 ⟨rfl, hA2⟩; replace B0 := B0.below hA2 B0.lt; replace B1 := B1.below hA2 B1.lt; replace B2 := B2.below hA2 B2.lt; replace B3 := B3.below hA2 B3.lt; replace B4 := B4.below hA2 B4.lt; replace hb := hb.trans (hA2.mono hb.size); clear HG))
          have lt_B0 := B0.lt
          have lt_B1 := B1.lt
          have lt_B2 := B2.lt
          have lt_B3 := B3.lt
          have lt_B4 := B4.lt
          go_upto_region 7 with (first | rw [← zero64] | (refine wpList_load_any rfl 25 (.tmp 7) rfl _ rfl 64 25 _ (B1) _ Try.underlying25 rfl Try.size25 ?_) | (refine wpList_load_any rfl 25 (.tmp 9) rfl _ rfl 64 25 _ (B3) _ Try.underlying25 rfl Try.size25 ?_) | (go_at_call 158; refine (HB.out _).mono ?_; rintro e W5 ⟨rfl, hW5⟩; replace B0 := B0.below hW5 B0.lt; replace B1 := B1.below hW5 B1.lt; replace B2 := B2.below hW5 B2.lt; replace B3 := B3.below hW5 B3.lt; replace B4 := B4.below hW5 B4.lt; replace hb := (hb).trans (hW5.mono (hb).size)) | (refine wpList_store_blk rfl 25 (.tmp 13) (.tmp 42) rfl _ 64 (bzD n fm fn) rfl rfl 25 _ ((((Blk.new W5 64 25 (fun _ => 0)).alloc (.cells (bcells 64 fun _ => 0) 25)).alloc (.cells (bcells 64 fun _ => 0) 25))) Try.size25 ?_; try simp only [Act.put]) | (refine wpList_store_blk rfl 25 (.tmp 14) (.tmp 43) rfl _ 64 (bzU n fm fn) rfl rfl 25 _ ((((show Blk ((W5.alloc (.cells (bcells 64 fun _ => 0) 25)).alloc (.cells (bcells 64 fun _ => 0) 25)) (W5.heap.size + 1) 64 25 (fun _ => 0) by have := Blk.new (W5.alloc (.cells (bcells 64 fun _ => 0) 25)) 64 25 (fun _ => 0); simpa using this).alloc (.cells (bcells 64 fun _ => 0) 25)).rowOther (by omega))) Try.size25 ?_; try simp only [Act.put]) | (refine wpList_store_blk rfl 25 (.tmp 15) (.tmp 44) rfl _ 64 (bzW n fm fn) rfl rfl 25 _ ((((show Blk (((W5.alloc (.cells (bcells 64 fun _ => 0) 25)).alloc (.cells (bcells 64 fun _ => 0) 25)).alloc (.cells (bcells 64 fun _ => 0) 25)) (W5.heap.size + 1 + 1) 64 25 (fun _ => 0) by have := Blk.new ((W5.alloc (.cells (bcells 64 fun _ => 0) 25)).alloc (.cells (bcells 64 fun _ => 0) 25)) 64 25 (fun _ => 0); simpa using this).rowOther (by omega)).rowOther (by omega))) Try.size25 ?_; try simp only [Act.put]))
          have lt_B0 := B0.lt
          have lt_B1 := B1.lt
          have lt_B2 := B2.lt
          have lt_B3 := B3.lt
          have lt_B4 := B4.lt
          have lhb := hb.size
          have qB0 : Blk ((((((W5.alloc (.cells (bcells 64 fun _ => 0) 25)).alloc (.cells (bcells 64 fun _ => 0) 25)).alloc (.cells (bcells 64 fun _ => 0) 25)).setRow (W5.heap.size) (bcells 64 (bzD n fm fn))).setRow (W5.heap.size + 1) (bcells 64 (bzU n fm fn))).setRow (W5.heap.size + 1 + 1) (bcells 64 (bzW n fm fn))) (w.heap.size) 64 25 (fa) := ((((((B0.alloc (.cells (bcells 64 fun _ => 0) 25)).alloc (.cells (bcells 64 fun _ => 0) 25)).alloc (.cells (bcells 64 fun _ => 0) 25)).rowOther (by omega)).rowOther (by omega)).rowOther (by omega))
          have qB1 : Blk ((((((W5.alloc (.cells (bcells 64 fun _ => 0) 25)).alloc (.cells (bcells 64 fun _ => 0) 25)).alloc (.cells (bcells 64 fun _ => 0) 25)).setRow (W5.heap.size) (bcells 64 (bzD n fm fn))).setRow (W5.heap.size + 1) (bcells 64 (bzU n fm fn))).setRow (W5.heap.size + 1 + 1) (bcells 64 (bzW n fm fn))) (w.heap.size + 1) 64 25 (fm) := ((((((B1.alloc (.cells (bcells 64 fun _ => 0) 25)).alloc (.cells (bcells 64 fun _ => 0) 25)).alloc (.cells (bcells 64 fun _ => 0) 25)).rowOther (by omega)).rowOther (by omega)).rowOther (by omega))
          have qB2 : Blk ((((((W5.alloc (.cells (bcells 64 fun _ => 0) 25)).alloc (.cells (bcells 64 fun _ => 0) 25)).alloc (.cells (bcells 64 fun _ => 0) 25)).setRow (W5.heap.size) (bcells 64 (bzD n fm fn))).setRow (W5.heap.size + 1) (bcells 64 (bzU n fm fn))).setRow (W5.heap.size + 1 + 1) (bcells 64 (bzW n fm fn))) (w.heap.size + 1 + 1) 64 25 (fb) := ((((((B2.alloc (.cells (bcells 64 fun _ => 0) 25)).alloc (.cells (bcells 64 fun _ => 0) 25)).alloc (.cells (bcells 64 fun _ => 0) 25)).rowOther (by omega)).rowOther (by omega)).rowOther (by omega))
          have qB3 : Blk ((((((W5.alloc (.cells (bcells 64 fun _ => 0) 25)).alloc (.cells (bcells 64 fun _ => 0) 25)).alloc (.cells (bcells 64 fun _ => 0) 25)).setRow (W5.heap.size) (bcells 64 (bzD n fm fn))).setRow (W5.heap.size + 1) (bcells 64 (bzU n fm fn))).setRow (W5.heap.size + 1 + 1) (bcells 64 (bzW n fm fn))) (w.heap.size + 1 + 1 + 1) 64 25 (fn) := ((((((B3.alloc (.cells (bcells 64 fun _ => 0) 25)).alloc (.cells (bcells 64 fun _ => 0) 25)).alloc (.cells (bcells 64 fun _ => 0) 25)).rowOther (by omega)).rowOther (by omega)).rowOther (by omega))
          have qB4 : Blk ((((((W5.alloc (.cells (bcells 64 fun _ => 0) 25)).alloc (.cells (bcells 64 fun _ => 0) 25)).alloc (.cells (bcells 64 fun _ => 0) 25)).setRow (W5.heap.size) (bcells 64 (bzD n fm fn))).setRow (W5.heap.size + 1) (bcells 64 (bzU n fm fn))).setRow (W5.heap.size + 1 + 1) (bcells 64 (bzW n fm fn))) (w.heap.size + 1 + 1 + 1 + 1) 64 25 (fun _ => 0) := ((((((B4.alloc (.cells (bcells 64 fun _ => 0) 25)).alloc (.cells (bcells 64 fun _ => 0) 25)).alloc (.cells (bcells 64 fun _ => 0) 25)).rowOther (by omega)).rowOther (by omega)).rowOther (by omega))
          have qB5 : Blk ((((((W5.alloc (.cells (bcells 64 fun _ => 0) 25)).alloc (.cells (bcells 64 fun _ => 0) 25)).alloc (.cells (bcells 64 fun _ => 0) 25)).setRow (W5.heap.size) (bcells 64 (bzD n fm fn))).setRow (W5.heap.size + 1) (bcells 64 (bzU n fm fn))).setRow (W5.heap.size + 1 + 1) (bcells 64 (bzW n fm fn))) (W5.heap.size) 64 25 (bzD n fm fn) := ((((((Blk.new W5 64 25 (fun _ => 0)).alloc (.cells (bcells 64 fun _ => 0) 25)).alloc (.cells (bcells 64 fun _ => 0) 25)).row (bzD n fm fn)).rowOther (by omega)).rowOther (by omega))
          have qB6 : Blk ((((((W5.alloc (.cells (bcells 64 fun _ => 0) 25)).alloc (.cells (bcells 64 fun _ => 0) 25)).alloc (.cells (bcells 64 fun _ => 0) 25)).setRow (W5.heap.size) (bcells 64 (bzD n fm fn))).setRow (W5.heap.size + 1) (bcells 64 (bzU n fm fn))).setRow (W5.heap.size + 1 + 1) (bcells 64 (bzW n fm fn))) (W5.heap.size + 1) 64 25 (bzU n fm fn) := (((((show Blk ((W5.alloc (.cells (bcells 64 fun _ => 0) 25)).alloc (.cells (bcells 64 fun _ => 0) 25)) (W5.heap.size + 1) 64 25 (fun _ => 0) by have := Blk.new (W5.alloc (.cells (bcells 64 fun _ => 0) 25)) 64 25 (fun _ => 0); simpa using this).alloc (.cells (bcells 64 fun _ => 0) 25)).rowOther (by omega)).row (bzU n fm fn)).rowOther (by omega))
          have qB7 : Blk ((((((W5.alloc (.cells (bcells 64 fun _ => 0) 25)).alloc (.cells (bcells 64 fun _ => 0) 25)).alloc (.cells (bcells 64 fun _ => 0) 25)).setRow (W5.heap.size) (bcells 64 (bzD n fm fn))).setRow (W5.heap.size + 1) (bcells 64 (bzU n fm fn))).setRow (W5.heap.size + 1 + 1) (bcells 64 (bzW n fm fn))) (W5.heap.size + 1 + 1) 64 25 (bzW n fm fn) := ((((show Blk (((W5.alloc (.cells (bcells 64 fun _ => 0) 25)).alloc (.cells (bcells 64 fun _ => 0) 25)).alloc (.cells (bcells 64 fun _ => 0) 25)) (W5.heap.size + 1 + 1) 64 25 (fun _ => 0) by have := Blk.new ((W5.alloc (.cells (bcells 64 fun _ => 0) 25)).alloc (.cells (bcells 64 fun _ => 0) 25)) 64 25 (fun _ => 0); simpa using this).rowOther (by omega)).rowOther (by omega)).row (bzW n fm fn))
          have qhb : Below w.heap.size w ((((((W5.alloc (.cells (bcells 64 fun _ => 0) 25)).alloc (.cells (bcells 64 fun _ => 0) 25)).alloc (.cells (bcells 64 fun _ => 0) 25)).setRow (W5.heap.size) (bcells 64 (bzD n fm fn))).setRow (W5.heap.size + 1) (bcells 64 (bzU n fm fn))).setRow (W5.heap.size + 1 + 1) (bcells 64 (bzW n fm fn))) := (below_row (below_row (below_row (((hb.alloc (by have := hb.size; simp; omega) (.cells (bcells 64 fun _ => 0) 25)).alloc (by have := hb.size; simp; omega) (.cells (bcells 64 fun _ => 0) 25)).alloc (by have := hb.size; simp; omega) (.cells (bcells 64 fun _ => 0) 25)) (by omega) _) (by omega) _) (by omega) _)
          obtain ⟨W6, hwo⟩ : ∃ v : World, v = ((((((W5.alloc (.cells (bcells 64 fun _ => 0) 25)).alloc (.cells (bcells 64 fun _ => 0) 25)).alloc (.cells (bcells 64 fun _ => 0) 25)).setRow (W5.heap.size) (bcells 64 (bzD n fm fn))).setRow (W5.heap.size + 1) (bcells 64 (bzU n fm fn))).setRow (W5.heap.size + 1 + 1) (bcells 64 (bzW n fm fn))) := ⟨_, rfl⟩
          rw [← hwo] at qB0 qB1 qB2 qB3 qB4 qB5 qB6 qB7 qhb ⊢
          clear hwo
          clear B0 B1 B2 B3 B4 hb
          have B0 := qB0
          have B1 := qB1
          have B2 := qB2
          have B3 := qB3
          have B4 := qB4
          have B5 := qB5
          have B6 := qB6
          have B7 := qB7
          have hb := qhb
          clear qB0 qB1 qB2 qB3 qB4 qB5 qB6 qB7 qhb
          obtain ⟨N1, hNN⟩ : ∃ n : Nat, n = W5.heap.size := ⟨_, rfl⟩
          rw [← hNN] at lt_B0 lt_B1 lt_B2 lt_B3 lt_B4 lhb B5 B6 B7 ⊢
          clear hNN
          have zN1_0 := lt_B0
          have zN1_1 := lt_B1
          have zN1_2 := lt_B2
          have zN1_3 := lt_B3
          have zN1_4 := lt_B4
          have zN1 := lhb
          clear lt_B0 lt_B1 lt_B2 lt_B3 lt_B4 lhb
          try simp only [Act.put, List.setIfInBounds_toArray, List.set_cons_zero, List.set_cons_succ]
          go_upto_region 8 with (first | (refine wpList_load_any rfl 25 (.tmp 13) rfl _ rfl 64 25 _ (B5) _ Try.underlying25 rfl Try.size25 ?_))
          clear heq hgd
          have lt_B0 := B0.lt
          have lt_B1 := B1.lt
          have lt_B2 := B2.lt
          have lt_B3 := B3.lt
          have lt_B4 := B4.lt
          have lt_B5 := B5.lt
          have lt_B6 := B6.lt
          have lt_B7 := B7.lt
          go_wp2_with (first | rw [← zero64] | (refine wpList_store_blk rfl 25 (.tmp 10) (.tmp 48) rfl _ 64 (fun _ => 0) rfl rfl 25 _ (B4) Try.size25 ?_; try simp only [Act.put]; go_wp2_with fail))
          have qB0 : Blk (W6.setRow (w.heap.size + 1 + 1 + 1 + 1) (bcells 64 (fun _ => 0))) (w.heap.size) 64 25 (fa) := (B0.rowOther (by omega))
          have qB1 : Blk (W6.setRow (w.heap.size + 1 + 1 + 1 + 1) (bcells 64 (fun _ => 0))) (w.heap.size + 1) 64 25 (fm) := (B1.rowOther (by omega))
          have qB2 : Blk (W6.setRow (w.heap.size + 1 + 1 + 1 + 1) (bcells 64 (fun _ => 0))) (w.heap.size + 1 + 1) 64 25 (fb) := (B2.rowOther (by omega))
          have qB3 : Blk (W6.setRow (w.heap.size + 1 + 1 + 1 + 1) (bcells 64 (fun _ => 0))) (w.heap.size + 1 + 1 + 1) 64 25 (fn) := (B3.rowOther (by omega))
          have qB4 : Blk (W6.setRow (w.heap.size + 1 + 1 + 1 + 1) (bcells 64 (fun _ => 0))) (w.heap.size + 1 + 1 + 1 + 1) 64 25 (fun _ => 0) := (B4.row (fun _ => 0))
          have qB5 : Blk (W6.setRow (w.heap.size + 1 + 1 + 1 + 1) (bcells 64 (fun _ => 0))) (N1) 64 25 (bzD n fm fn) := (B5.rowOther (by omega))
          have qB6 : Blk (W6.setRow (w.heap.size + 1 + 1 + 1 + 1) (bcells 64 (fun _ => 0))) (N1 + 1) 64 25 (bzU n fm fn) := (B6.rowOther (by omega))
          have qB7 : Blk (W6.setRow (w.heap.size + 1 + 1 + 1 + 1) (bcells 64 (fun _ => 0))) (N1 + 1 + 1) 64 25 (bzW n fm fn) := (B7.rowOther (by omega))
          have qhb : Below w.heap.size w (W6.setRow (w.heap.size + 1 + 1 + 1 + 1) (bcells 64 (fun _ => 0))) := (below_row hb (by omega) _)
          obtain ⟨W7, hwo⟩ : ∃ v : World, v = (W6.setRow (w.heap.size + 1 + 1 + 1 + 1) (bcells 64 (fun _ => 0))) := ⟨_, rfl⟩
          rw [← hwo] at qB0 qB1 qB2 qB3 qB4 qB5 qB6 qB7 qhb ⊢
          clear hwo
          clear B0 B1 B2 B3 B4 B5 B6 B7 hb
          have B0 := qB0
          have B1 := qB1
          have B2 := qB2
          have B3 := qB3
          have B4 := qB4
          have B5 := qB5
          have B6 := qB6
          have B7 := qB7
          have hb := qhb
          clear qB0 qB1 qB2 qB3 qB4 qB5 qB6 qB7 qhb
          try simp only [Act.put, List.setIfInBounds_toArray, List.set_cons_zero, List.set_cons_succ]
          refine bodyPost_ret (results_bt rfl _ _ _ 64 25 5 _ rfl B4 Try.underlying25 Try.size25) rfl ⟨by first | (rw [HV.out]; rfl) | rw [HV.out], hb⟩
        | true =>
          have HV := Lib.hid (rfV_0 hc ⟨hm5, hn5⟩ hu)
          have HB := Lib.hid (fun W => bezout_any n fm fn W hpr lm ln' (.inr n0))
          have hgd := Try.noGuard25
          have heq := fun W => run_equalIn_bytes (P := Try.prog) W 9998 25 5 64 (bzD n fm fn) oneP Try.underlying25 Try.underlying5 Try.size5
          rw [hu] at heq
          simp only [one64] at heq
          rw [hc]
          clear hc hu hmonm hmonn dm1 dm5 dn1 dn5
          go_upto_region 4 with (fail)
          have HF := Lib.hid (fun W => isModulus_any fm hfm W)
          have HG := Lib.hid (fun W => isModulus_any fn hfn W)
          rw [hm5] at HF
          rw [hn5] at HG
          go_upto_region 6 with (first | (refine wpList_load_any rfl 25 (.tmp 7) rfl _ rfl 64 25 _ B1 _ Try.underlying25 rfl Try.size25 ?_) | (refine wpList_load_any_g rfl 25 (.tmp 9) rfl _ rfl 64 25 _ B3 _ Try.underlying25 rfl Try.size25 ?_) | (go_at_call 214; refine (HF.out _).mono ?_; rintro e W3 ⟨rfl, hA⟩; replace B0 := B0.below hA B0.lt; replace B1 := B1.below hA B1.lt; replace B2 := B2.below hA B2.lt; replace B3 := B3.below hA B3.lt; replace B4 := B4.below hA B4.lt; replace hb := hb.trans (hA.mono hb.size); clear HF) | (go_at_call 214; refine (HG.out _).mono ?_; rintro e W4 ⟨rfl, hA2⟩; replace B0 := B0.below hA2 B0.lt; replace B1 := B1.below hA2 B1.lt; replace B2 := B2.below hA2 B2.lt; replace B3 := B3.below hA2 B3.lt; replace B4 := B4.below hA2 B4.lt; replace hb := hb.trans (hA2.mono hb.size); clear HG))
          have lt_B0 := B0.lt
          have lt_B1 := B1.lt
          have lt_B2 := B2.lt
          have lt_B3 := B3.lt
          have lt_B4 := B4.lt
          go_upto_region 7 with (first | rw [← zero64] | (refine wpList_load_any rfl 25 (.tmp 7) rfl _ rfl 64 25 _ (B1) _ Try.underlying25 rfl Try.size25 ?_) | (refine wpList_load_any rfl 25 (.tmp 9) rfl _ rfl 64 25 _ (B3) _ Try.underlying25 rfl Try.size25 ?_) | (go_at_call 158; refine (HB.out _).mono ?_; rintro e W5 ⟨rfl, hW5⟩; replace B0 := B0.below hW5 B0.lt; replace B1 := B1.below hW5 B1.lt; replace B2 := B2.below hW5 B2.lt; replace B3 := B3.below hW5 B3.lt; replace B4 := B4.below hW5 B4.lt; replace hb := (hb).trans (hW5.mono (hb).size)) | (refine wpList_store_blk rfl 25 (.tmp 13) (.tmp 42) rfl _ 64 (bzD n fm fn) rfl rfl 25 _ ((((Blk.new W5 64 25 (fun _ => 0)).alloc (.cells (bcells 64 fun _ => 0) 25)).alloc (.cells (bcells 64 fun _ => 0) 25))) Try.size25 ?_; try simp only [Act.put]) | (refine wpList_store_blk rfl 25 (.tmp 14) (.tmp 43) rfl _ 64 (bzU n fm fn) rfl rfl 25 _ ((((show Blk ((W5.alloc (.cells (bcells 64 fun _ => 0) 25)).alloc (.cells (bcells 64 fun _ => 0) 25)) (W5.heap.size + 1) 64 25 (fun _ => 0) by have := Blk.new (W5.alloc (.cells (bcells 64 fun _ => 0) 25)) 64 25 (fun _ => 0); simpa using this).alloc (.cells (bcells 64 fun _ => 0) 25)).rowOther (by omega))) Try.size25 ?_; try simp only [Act.put]) | (refine wpList_store_blk rfl 25 (.tmp 15) (.tmp 44) rfl _ 64 (bzW n fm fn) rfl rfl 25 _ ((((show Blk (((W5.alloc (.cells (bcells 64 fun _ => 0) 25)).alloc (.cells (bcells 64 fun _ => 0) 25)).alloc (.cells (bcells 64 fun _ => 0) 25)) (W5.heap.size + 1 + 1) 64 25 (fun _ => 0) by have := Blk.new ((W5.alloc (.cells (bcells 64 fun _ => 0) 25)).alloc (.cells (bcells 64 fun _ => 0) 25)) 64 25 (fun _ => 0); simpa using this).rowOther (by omega)).rowOther (by omega))) Try.size25 ?_; try simp only [Act.put]))
          have lt_B0 := B0.lt
          have lt_B1 := B1.lt
          have lt_B2 := B2.lt
          have lt_B3 := B3.lt
          have lt_B4 := B4.lt
          have lhb := hb.size
          have qB0 : Blk ((((((W5.alloc (.cells (bcells 64 fun _ => 0) 25)).alloc (.cells (bcells 64 fun _ => 0) 25)).alloc (.cells (bcells 64 fun _ => 0) 25)).setRow (W5.heap.size) (bcells 64 (bzD n fm fn))).setRow (W5.heap.size + 1) (bcells 64 (bzU n fm fn))).setRow (W5.heap.size + 1 + 1) (bcells 64 (bzW n fm fn))) (w.heap.size) 64 25 (fa) := ((((((B0.alloc (.cells (bcells 64 fun _ => 0) 25)).alloc (.cells (bcells 64 fun _ => 0) 25)).alloc (.cells (bcells 64 fun _ => 0) 25)).rowOther (by omega)).rowOther (by omega)).rowOther (by omega))
          have qB1 : Blk ((((((W5.alloc (.cells (bcells 64 fun _ => 0) 25)).alloc (.cells (bcells 64 fun _ => 0) 25)).alloc (.cells (bcells 64 fun _ => 0) 25)).setRow (W5.heap.size) (bcells 64 (bzD n fm fn))).setRow (W5.heap.size + 1) (bcells 64 (bzU n fm fn))).setRow (W5.heap.size + 1 + 1) (bcells 64 (bzW n fm fn))) (w.heap.size + 1) 64 25 (fm) := ((((((B1.alloc (.cells (bcells 64 fun _ => 0) 25)).alloc (.cells (bcells 64 fun _ => 0) 25)).alloc (.cells (bcells 64 fun _ => 0) 25)).rowOther (by omega)).rowOther (by omega)).rowOther (by omega))
          have qB2 : Blk ((((((W5.alloc (.cells (bcells 64 fun _ => 0) 25)).alloc (.cells (bcells 64 fun _ => 0) 25)).alloc (.cells (bcells 64 fun _ => 0) 25)).setRow (W5.heap.size) (bcells 64 (bzD n fm fn))).setRow (W5.heap.size + 1) (bcells 64 (bzU n fm fn))).setRow (W5.heap.size + 1 + 1) (bcells 64 (bzW n fm fn))) (w.heap.size + 1 + 1) 64 25 (fb) := ((((((B2.alloc (.cells (bcells 64 fun _ => 0) 25)).alloc (.cells (bcells 64 fun _ => 0) 25)).alloc (.cells (bcells 64 fun _ => 0) 25)).rowOther (by omega)).rowOther (by omega)).rowOther (by omega))
          have qB3 : Blk ((((((W5.alloc (.cells (bcells 64 fun _ => 0) 25)).alloc (.cells (bcells 64 fun _ => 0) 25)).alloc (.cells (bcells 64 fun _ => 0) 25)).setRow (W5.heap.size) (bcells 64 (bzD n fm fn))).setRow (W5.heap.size + 1) (bcells 64 (bzU n fm fn))).setRow (W5.heap.size + 1 + 1) (bcells 64 (bzW n fm fn))) (w.heap.size + 1 + 1 + 1) 64 25 (fn) := ((((((B3.alloc (.cells (bcells 64 fun _ => 0) 25)).alloc (.cells (bcells 64 fun _ => 0) 25)).alloc (.cells (bcells 64 fun _ => 0) 25)).rowOther (by omega)).rowOther (by omega)).rowOther (by omega))
          have qB4 : Blk ((((((W5.alloc (.cells (bcells 64 fun _ => 0) 25)).alloc (.cells (bcells 64 fun _ => 0) 25)).alloc (.cells (bcells 64 fun _ => 0) 25)).setRow (W5.heap.size) (bcells 64 (bzD n fm fn))).setRow (W5.heap.size + 1) (bcells 64 (bzU n fm fn))).setRow (W5.heap.size + 1 + 1) (bcells 64 (bzW n fm fn))) (w.heap.size + 1 + 1 + 1 + 1) 64 25 (fun _ => 0) := ((((((B4.alloc (.cells (bcells 64 fun _ => 0) 25)).alloc (.cells (bcells 64 fun _ => 0) 25)).alloc (.cells (bcells 64 fun _ => 0) 25)).rowOther (by omega)).rowOther (by omega)).rowOther (by omega))
          have qB5 : Blk ((((((W5.alloc (.cells (bcells 64 fun _ => 0) 25)).alloc (.cells (bcells 64 fun _ => 0) 25)).alloc (.cells (bcells 64 fun _ => 0) 25)).setRow (W5.heap.size) (bcells 64 (bzD n fm fn))).setRow (W5.heap.size + 1) (bcells 64 (bzU n fm fn))).setRow (W5.heap.size + 1 + 1) (bcells 64 (bzW n fm fn))) (W5.heap.size) 64 25 (bzD n fm fn) := ((((((Blk.new W5 64 25 (fun _ => 0)).alloc (.cells (bcells 64 fun _ => 0) 25)).alloc (.cells (bcells 64 fun _ => 0) 25)).row (bzD n fm fn)).rowOther (by omega)).rowOther (by omega))
          have qB6 : Blk ((((((W5.alloc (.cells (bcells 64 fun _ => 0) 25)).alloc (.cells (bcells 64 fun _ => 0) 25)).alloc (.cells (bcells 64 fun _ => 0) 25)).setRow (W5.heap.size) (bcells 64 (bzD n fm fn))).setRow (W5.heap.size + 1) (bcells 64 (bzU n fm fn))).setRow (W5.heap.size + 1 + 1) (bcells 64 (bzW n fm fn))) (W5.heap.size + 1) 64 25 (bzU n fm fn) := (((((show Blk ((W5.alloc (.cells (bcells 64 fun _ => 0) 25)).alloc (.cells (bcells 64 fun _ => 0) 25)) (W5.heap.size + 1) 64 25 (fun _ => 0) by have := Blk.new (W5.alloc (.cells (bcells 64 fun _ => 0) 25)) 64 25 (fun _ => 0); simpa using this).alloc (.cells (bcells 64 fun _ => 0) 25)).rowOther (by omega)).row (bzU n fm fn)).rowOther (by omega))
          have qB7 : Blk ((((((W5.alloc (.cells (bcells 64 fun _ => 0) 25)).alloc (.cells (bcells 64 fun _ => 0) 25)).alloc (.cells (bcells 64 fun _ => 0) 25)).setRow (W5.heap.size) (bcells 64 (bzD n fm fn))).setRow (W5.heap.size + 1) (bcells 64 (bzU n fm fn))).setRow (W5.heap.size + 1 + 1) (bcells 64 (bzW n fm fn))) (W5.heap.size + 1 + 1) 64 25 (bzW n fm fn) := ((((show Blk (((W5.alloc (.cells (bcells 64 fun _ => 0) 25)).alloc (.cells (bcells 64 fun _ => 0) 25)).alloc (.cells (bcells 64 fun _ => 0) 25)) (W5.heap.size + 1 + 1) 64 25 (fun _ => 0) by have := Blk.new ((W5.alloc (.cells (bcells 64 fun _ => 0) 25)).alloc (.cells (bcells 64 fun _ => 0) 25)) 64 25 (fun _ => 0); simpa using this).rowOther (by omega)).rowOther (by omega)).row (bzW n fm fn))
          have qhb : Below w.heap.size w ((((((W5.alloc (.cells (bcells 64 fun _ => 0) 25)).alloc (.cells (bcells 64 fun _ => 0) 25)).alloc (.cells (bcells 64 fun _ => 0) 25)).setRow (W5.heap.size) (bcells 64 (bzD n fm fn))).setRow (W5.heap.size + 1) (bcells 64 (bzU n fm fn))).setRow (W5.heap.size + 1 + 1) (bcells 64 (bzW n fm fn))) := (below_row (below_row (below_row (((hb.alloc (by have := hb.size; simp; omega) (.cells (bcells 64 fun _ => 0) 25)).alloc (by have := hb.size; simp; omega) (.cells (bcells 64 fun _ => 0) 25)).alloc (by have := hb.size; simp; omega) (.cells (bcells 64 fun _ => 0) 25)) (by omega) _) (by omega) _) (by omega) _)
          obtain ⟨W6, hwo⟩ : ∃ v : World, v = ((((((W5.alloc (.cells (bcells 64 fun _ => 0) 25)).alloc (.cells (bcells 64 fun _ => 0) 25)).alloc (.cells (bcells 64 fun _ => 0) 25)).setRow (W5.heap.size) (bcells 64 (bzD n fm fn))).setRow (W5.heap.size + 1) (bcells 64 (bzU n fm fn))).setRow (W5.heap.size + 1 + 1) (bcells 64 (bzW n fm fn))) := ⟨_, rfl⟩
          rw [← hwo] at qB0 qB1 qB2 qB3 qB4 qB5 qB6 qB7 qhb ⊢
          clear hwo
          clear B0 B1 B2 B3 B4 hb
          have B0 := qB0
          have B1 := qB1
          have B2 := qB2
          have B3 := qB3
          have B4 := qB4
          have B5 := qB5
          have B6 := qB6
          have B7 := qB7
          have hb := qhb
          clear qB0 qB1 qB2 qB3 qB4 qB5 qB6 qB7 qhb
          obtain ⟨N1, hNN⟩ : ∃ n : Nat, n = W5.heap.size := ⟨_, rfl⟩
          rw [← hNN] at lt_B0 lt_B1 lt_B2 lt_B3 lt_B4 lhb B5 B6 B7 ⊢
          clear hNN
          have zN1_0 := lt_B0
          have zN1_1 := lt_B1
          have zN1_2 := lt_B2
          have zN1_3 := lt_B3
          have zN1_4 := lt_B4
          have zN1 := lhb
          clear lt_B0 lt_B1 lt_B2 lt_B3 lt_B4 lhb
          try simp only [Act.put, List.setIfInBounds_toArray, List.set_cons_zero, List.set_cons_succ]
          go_upto_region 9 with (first | (refine wpList_load_any rfl 25 (.tmp 13) rfl _ rfl 64 25 _ (B5) _ Try.underlying25 rfl Try.size25 ?_))
          clear heq hgd
          have HR := Lib.hid (fun W => restOf_any n fa fm W hpr la lm m0)
          have HD := Lib.hid (fun W => differenceS_any n fb (resP n fa fm) W n2 n7 lb la')
          have HT := Lib.hid (show ∀ W, Calls Try.prog 206 #[.int .i64 (n : Int), .agg (bcells 64 (bzU n fm fn)), .agg (bcells 64 (subP n fb (resP n fa fm))), .agg (bcells 64 fn)] W fun e w' => e = .returned (.agg (bcells 64 (rfT n fa fm fb fn))) ∧ Below W.heap.size W w' from fun W => restOfProduct_any n (bzU n fm fn) (subP n fb (resP n fa fm)) fn W hpr (fun k _ => bzU_lt p0 k) (fun k _ => subP_lt p0 k) ln' n0)
          have HP := Lib.hid (fun W => product_any n fm (rfT n fa fm fb fn) W n2 n7 lm (fun k hk => mmP_lt p0 k (by omega)))
          have HS := Lib.hid (show ∀ W, Calls Try.prog 149 #[.int .i64 (n : Int), .agg (bcells 64 (resP n fa fm)), .agg (bcells 64 (prd n fm (rfT n fa fm fb fn)))] W fun e w' => e = .returned (.agg (bcells 64 (rfR n fa fm fb fn))) ∧ Below W.heap.size W w' from fun W => sum_any n (resP n fa fm) (prd n fm (rfT n fa fm fb fn)) W n2 n7 la' (fun k _ => prd_lt p0 k))
          have lt_B0 := B0.lt
          have lt_B1 := B1.lt
          have lt_B2 := B2.lt
          have lt_B3 := B3.lt
          have lt_B4 := B4.lt
          have lt_B5 := B5.lt
          have lt_B6 := B6.lt
          have lt_B7 := B7.lt
          go_upto_region 10 with (first | rw [← zero64] | (refine wpList_load_any rfl 25 (.tmp 6) rfl _ rfl 64 25 _ (B0) _ Try.underlying25 rfl Try.size25 ?_) | (refine wpList_load_any rfl 25 (.tmp 7) rfl _ rfl 64 25 _ (B1) _ Try.underlying25 rfl Try.size25 ?_) | (go_at_call 205; refine (HR.out _).mono ?_; rintro e W7 ⟨rfl, hW7⟩; replace B0 := B0.below hW7 B0.lt; replace B1 := B1.below hW7 B1.lt; replace B2 := B2.below hW7 B2.lt; replace B3 := B3.below hW7 B3.lt; replace B4 := B4.below hW7 B4.lt; replace B5 := B5.below hW7 B5.lt; replace B6 := B6.below hW7 B6.lt; replace B7 := B7.below hW7 B7.lt; replace hb := (hb).trans (hW7.mono (hb).size)) | (refine wpList_store_blk rfl 25 (.tmp 6) (.tmp 52) rfl _ 64 (resP n fa fm) rfl rfl 25 _ (B0) Try.size25 ?_; try simp only [Act.put]))
          have qB0 : Blk (W7.setRow (w.heap.size) (bcells 64 (resP n fa fm))) (w.heap.size) 64 25 (resP n fa fm) := (B0.row (resP n fa fm))
          have qB1 : Blk (W7.setRow (w.heap.size) (bcells 64 (resP n fa fm))) (w.heap.size + 1) 64 25 (fm) := (B1.rowOther (by omega))
          have qB2 : Blk (W7.setRow (w.heap.size) (bcells 64 (resP n fa fm))) (w.heap.size + 1 + 1) 64 25 (fb) := (B2.rowOther (by omega))
          have qB3 : Blk (W7.setRow (w.heap.size) (bcells 64 (resP n fa fm))) (w.heap.size + 1 + 1 + 1) 64 25 (fn) := (B3.rowOther (by omega))
          have qB4 : Blk (W7.setRow (w.heap.size) (bcells 64 (resP n fa fm))) (w.heap.size + 1 + 1 + 1 + 1) 64 25 (fun _ => 0) := (B4.rowOther (by omega))
          have qB5 : Blk (W7.setRow (w.heap.size) (bcells 64 (resP n fa fm))) (N1) 64 25 (bzD n fm fn) := (B5.rowOther (by omega))
          have qB6 : Blk (W7.setRow (w.heap.size) (bcells 64 (resP n fa fm))) (N1 + 1) 64 25 (bzU n fm fn) := (B6.rowOther (by omega))
          have qB7 : Blk (W7.setRow (w.heap.size) (bcells 64 (resP n fa fm))) (N1 + 1 + 1) 64 25 (bzW n fm fn) := (B7.rowOther (by omega))
          have qhb : Below w.heap.size w (W7.setRow (w.heap.size) (bcells 64 (resP n fa fm))) := (below_row hb (by omega) _)
          obtain ⟨W8, hwo⟩ : ∃ v : World, v = (W7.setRow (w.heap.size) (bcells 64 (resP n fa fm))) := ⟨_, rfl⟩
          rw [← hwo] at qB0 qB1 qB2 qB3 qB4 qB5 qB6 qB7 qhb ⊢
          clear hwo
          clear B0 B1 B2 B3 B4 B5 B6 B7 hb
          have B0 := qB0
          have B1 := qB1
          have B2 := qB2
          have B3 := qB3
          have B4 := qB4
          have B5 := qB5
          have B6 := qB6
          have B7 := qB7
          have hb := qhb
          clear qB0 qB1 qB2 qB3 qB4 qB5 qB6 qB7 qhb
          try simp only [Act.put, List.setIfInBounds_toArray, List.set_cons_zero, List.set_cons_succ]
          have lt_B0 : (w.heap.size) < W8.heap.size := B0.lt
          have lt_B1 : (w.heap.size + 1) < W8.heap.size := B1.lt
          have lt_B2 : (w.heap.size + 1 + 1) < W8.heap.size := B2.lt
          have lt_B3 : (w.heap.size + 1 + 1 + 1) < W8.heap.size := B3.lt
          have lt_B4 : (w.heap.size + 1 + 1 + 1 + 1) < W8.heap.size := B4.lt
          have lt_B5 : (N1) < W8.heap.size := B5.lt
          have lt_B6 : (N1 + 1) < W8.heap.size := B6.lt
          have lt_B7 : (N1 + 1 + 1) < W8.heap.size := B7.lt
          have hbase : w.heap.size ≤ W8.heap.size := hb.size
          refine wp_region_steps0 Try.mixed (by kernel_rfl) (by kernel_rfl) (fun v => by (simp only [frL, Act.put, List.setIfInBounds_toArray, List.set_cons_zero, List.set_cons_succ, Nat.reduceAdd, Nat.zero_add]; exact rfl))
            (fun L v W9 => Below w.heap.size w W9 ∧ W8.heap.size ≤ W9.heap.size ∧ Blk W9 (w.heap.size) 64 25 (resP n fa fm) ∧ Blk W9 (w.heap.size + 1) 64 25 (fm) ∧ Blk W9 (w.heap.size + 1 + 1) 64 25 (fb) ∧ Blk W9 (w.heap.size + 1 + 1 + 1) 64 25 (fn) ∧ Blk W9 (w.heap.size + 1 + 1 + 1 + 1) 64 25 (fun _ => 0) ∧ Blk W9 (N1) 64 25 (bzD n fm fn) ∧ Blk W9 (N1 + 1) 64 25 (bzU n fm fn) ∧ Blk W9 (N1 + 1 + 1) 64 25 (bzW n fm fn) ∧ (L 0 = true → v 0 = (.int .i64 (n : Int))) ∧ (L 1 = true → v 1 = (.agg (bcells 64 (bzU n fm fn)))) ∧ (L 2 = true → v 2 = (.int .i64 (n : Int))) ∧ (L 3 = true → v 3 = (.agg (bcells 64 (fb)))) ∧ (L 4 = true → v 4 = (.agg (bcells 64 (resP n fa fm)))) ∧ (L 5 = true → v 5 = (.agg (bcells 64 (subP n fb (resP n fa fm))))) ∧ (L 6 = true → v 6 = (.agg (bcells 64 (fn)))) ∧ (L 7 = true → v 7 = (.agg (bcells 64 (rfT n fa fm fb fn)))) ∧ (L 8 = true → AF (v 8) W9 W8.heap.size 64 25) ∧ (L 9 = true → PF (v 8) W9 W8.heap.size 64 25 (rfT n fa fm fb fn))) ?_ ?_ ?_
          · intro v hv0
            exact ⟨hb.drew, Nat.le_refl _, B0.drew, B1.drew, B2.drew, B3.drew, B4.drew, B5.drew, B6.drew, B7.drew, (fun h => by cases h), (fun h => by cases h), (fun h => by cases h), (fun h => by cases h), (fun h => by cases h), (fun h => by cases h), (fun h => by cases h), (fun h => by cases h), (fun h => by cases h), (fun h => by cases h)⟩
          · refine (.cons rfl ?_ (.cons rfl ?_ (.cons rfl ?_ (.cons rfl ?_ (.cons rfl ?_ (.cons rfl ?_ (.cons rfl ?_ (.cons rfl ?_ (.cons rfl ?_ (.cons rfl ?_ (.nil _)))))))))))
            · intro L v W9 hd hn ⟨hB, hz, s0, s1, s2, s3, s4, s5, s6, s7, h0, h1, h2, h3, h4, h5, h6, h7, h8, h9⟩ K hK
              go_wp2_with fail
              exact hK _ (.int .i64 (n : Int)) _ (by simp only [Act.put, List.setIfInBounds_toArray, List.set_cons_zero, List.set_cons_succ ]) ⟨hB, hz, s0, s1, s2, s3, s4, s5, s6, s7, (fun _ => rfl), h1, h2, h3, h4, h5, h6, h7, h8, h9⟩
            · intro L v W9 hd hn ⟨hB, hz, s0, s1, s2, s3, s4, s5, s6, s7, h0, h1, h2, h3, h4, h5, h6, h7, h8, h9⟩ K hK
              refine wp_load_any 25 _ rfl _ rfl 64 25 _ s6 _ Try.underlying25 rfl Try.size25 ?_
              exact hK _ _ _ rfl ⟨hB, hz, s0, s1, s2, s3, s4, s5, s6, s7, h0, (fun _ => rfl), h2, h3, h4, h5, h6, h7, h8, h9⟩
            · intro L v W9 hd hn ⟨hB, hz, s0, s1, s2, s3, s4, s5, s6, s7, h0, h1, h2, h3, h4, h5, h6, h7, h8, h9⟩ K hK
              go_wp2_with fail
              exact hK _ (.int .i64 (n : Int)) _ (by simp only [Act.put, List.setIfInBounds_toArray, List.set_cons_zero, List.set_cons_succ ]) ⟨hB, hz, s0, s1, s2, s3, s4, s5, s6, s7, h0, h1, (fun _ => rfl), h3, h4, h5, h6, h7, h8, h9⟩
            · intro L v W9 hd hn ⟨hB, hz, s0, s1, s2, s3, s4, s5, s6, s7, h0, h1, h2, h3, h4, h5, h6, h7, h8, h9⟩ K hK
              refine wp_load_any 25 _ rfl _ rfl 64 25 _ s2 _ Try.underlying25 rfl Try.size25 ?_
              exact hK _ _ _ rfl ⟨hB, hz, s0, s1, s2, s3, s4, s5, s6, s7, h0, h1, h2, (fun _ => rfl), h4, h5, h6, h7, h8, h9⟩
            · intro L v W9 hd hn ⟨hB, hz, s0, s1, s2, s3, s4, s5, s6, s7, h0, h1, h2, h3, h4, h5, h6, h7, h8, h9⟩ K hK
              refine wp_load_any 25 _ rfl _ rfl 64 25 _ s0 _ Try.underlying25 rfl Try.size25 ?_
              exact hK _ _ _ rfl ⟨hB, hz, s0, s1, s2, s3, s4, s5, s6, s7, h0, h1, h2, h3, (fun _ => rfl), h5, h6, h7, h8, h9⟩
            · intro L v W9 hd hn ⟨hB, hz, s0, s1, s2, s3, s4, s5, s6, s7, h0, h1, h2, h3, h4, h5, h6, h7, h8, h9⟩ K hK
              have e2 := h2 (hd ⟨2, .data⟩ (by simp) rfl)
              have e3 := h3 (hd ⟨3, .data⟩ (by simp) rfl)
              have e4 := h4 (hd ⟨4, .data⟩ (by simp) rfl)
              go_wp2_with (go_at_call 165; refine (HD.out _).mono ?_; rintro e wy ⟨rfl, hy⟩)
              exact hK _ (.agg (bcells 64 (subP n fb (resP n fa fm)))) _ (by simp only [Act.put, List.setIfInBounds_toArray, List.set_cons_zero, List.set_cons_succ, e2, e3, e4]) ⟨hB.trans (hy.mono hB.size), (Nat.le_trans hz hy.size), (s0).below hy (s0).lt, (s1).below hy (s1).lt, (s2).below hy (s2).lt, (s3).below hy (s3).lt, (s4).below hy (s4).lt, (s5).below hy (s5).lt, (s6).below hy (s6).lt, (s7).below hy (s7).lt, h0, h1, h2, h3, h4, (fun _ => rfl), h6, h7, (fun h => (h8 h).below hy), (fun h => (h9 h).below hy)⟩
            · intro L v W9 hd hn ⟨hB, hz, s0, s1, s2, s3, s4, s5, s6, s7, h0, h1, h2, h3, h4, h5, h6, h7, h8, h9⟩ K hK
              refine wp_load_any 25 _ rfl _ rfl 64 25 _ s3 _ Try.underlying25 rfl Try.size25 ?_
              exact hK _ _ _ rfl ⟨hB, hz, s0, s1, s2, s3, s4, s5, s6, s7, h0, h1, h2, h3, h4, h5, (fun _ => rfl), h7, h8, h9⟩
            · intro L v W9 hd hn ⟨hB, hz, s0, s1, s2, s3, s4, s5, s6, s7, h0, h1, h2, h3, h4, h5, h6, h7, h8, h9⟩ K hK
              have e0 := h0 (hd ⟨0, .data⟩ (by simp) rfl)
              have e1 := h1 (hd ⟨1, .data⟩ (by simp) rfl)
              have e5 := h5 (hd ⟨5, .data⟩ (by simp) rfl)
              have e6 := h6 (hd ⟨6, .data⟩ (by simp) rfl)
              go_wp2_with (go_at_call 206; refine (HT.out _).mono ?_; rintro e wy ⟨rfl, hy⟩)
              exact hK _ (.agg (bcells 64 (rfT n fa fm fb fn))) _ (by simp only [Act.put, List.setIfInBounds_toArray, List.set_cons_zero, List.set_cons_succ, e0, e1, e5, e6]) ⟨hB.trans (hy.mono hB.size), (Nat.le_trans hz hy.size), (s0).below hy (s0).lt, (s1).below hy (s1).lt, (s2).below hy (s2).lt, (s3).below hy (s3).lt, (s4).below hy (s4).lt, (s5).below hy (s5).lt, (s6).below hy (s6).lt, (s7).below hy (s7).lt, h0, h1, h2, h3, h4, h5, h6, (fun _ => rfl), (fun h => (h8 h).below hy), (fun h => (h9 h).below hy)⟩
            · intro L v W9 hd hn ⟨hB, hz, s0, s1, s2, s3, s4, s5, s6, s7, h0, h1, h2, h3, h4, h5, h6, h7, h8, h9⟩ K hK
              go_wp2_with fail
              rw [← zero64]
              exact hK _ (.pointer (some ⟨W9.heap.size, 0, none⟩)) _ (by simp only [Act.put, List.setIfInBounds_toArray, List.set_cons_zero, List.set_cons_succ ]) ⟨hB.alloc hB.size _, (by simp; omega), (s0).alloc _, (s1).alloc _, (s2).alloc _, (s3).alloc _, (s4).alloc _, (s5).alloc _, (s6).alloc _, (s7).alloc _, h0, h1, h2, h3, h4, h5, h6, h7, (fun _ => (PF.new W9 64 25 _ hz).af), (fun h => absurd rfl (hn 9 _ rfl h ⟨8, .data⟩ (by simp) rfl))⟩
            · intro L v W9 hd hn ⟨hB, hz, s0, s1, s2, s3, s4, s5, s6, s7, h0, h1, h2, h3, h4, h5, h6, h7, h8, h9⟩ K hK
              have e7 := h7 (hd ⟨7, .data⟩ (by simp) rfl)
              obtain ⟨gz, b, ea, hN, hk⟩ := (h8 (hd ⟨8, .data⟩ (by simp) rfl)).out
              refine wp_store_blk 25 _ _ rfl b 64 (rfT n fa fm fb fn) ea e7 25 gz hk Try.size25 ?_
              exact hK _ undef _ rfl ⟨below_row hB (Nat.le_trans hbase hN) _, (by simpa [World.setRow] using hz), (s0).rowOther (by omega), (s1).rowOther (by omega), (s2).rowOther (by omega), (s3).rowOther (by omega), (s4).rowOther (by omega), (s5).rowOther (by omega), (s6).rowOther (by omega), (s7).rowOther (by omega), h0, h1, h2, h3, h4, h5, h6, h7, (fun h => (h8 h).row hk), (fun _ => by rw [show updV v 9 undef 8 = v 8 from rfl, ea]; exact PF.row hk hN _)⟩
          · intro L v W9 hL ⟨hB, hz, s0, s1, s2, s3, s4, s5, s6, s7, h0, h1, h2, h3, h4, h5, h6, h7, h8, h9⟩
            have e0 := h0 (hL 0 (by decide))
            have e1 := h1 (hL 1 (by decide))
            have e2 := h2 (hL 2 (by decide))
            have e3 := h3 (hL 3 (by decide))
            have e4 := h4 (hL 4 (by decide))
            have e5 := h5 (hL 5 (by decide))
            have e6 := h6 (hL 6 (by decide))
            have e7 := h7 (hL 7 (by decide))
            obtain ⟨k10_8, e8, hNk10_8, hk10_8⟩ := (h9 (hL 9 (by decide))).out
            clear hL h0 h1 h2 h3 h4 h5 h6 h7 h8 h9
            simp only [Exit.then, e0, e1, e2, e3, e4, e5, e6, e7, e8]
            clear e0 e1 e2 e3 e4 e5 e6 e7 e8
            clear B0
            have B0 := s0
            clear s0
            clear B1
            have B1 := s1
            clear s1
            clear B2
            have B2 := s2
            clear s2
            clear B3
            have B3 := s3
            clear s3
            clear B4
            have B4 := s4
            clear s4
            clear B5
            have B5 := s5
            clear s5
            clear B6
            have B6 := s6
            clear s6
            clear B7
            have B7 := s7
            clear s7
            clear hb
            have hb := hB
            clear hB
            have B8 := hk10_8
            clear hk10_8
            have zk10_8_0 : w.heap.size < k10_8 := by omega
            have zk10_8_1 : w.heap.size + 1 < k10_8 := by omega
            have zk10_8_2 : w.heap.size + 1 + 1 < k10_8 := by omega
            have zk10_8_3 : w.heap.size + 1 + 1 + 1 < k10_8 := by omega
            have zk10_8_4 : w.heap.size + 1 + 1 + 1 + 1 < k10_8 := by omega
            have zk10_8_5 : N1 < k10_8 := by omega
            have zk10_8_6 : N1 + 1 < k10_8 := by omega
            have zk10_8_7 : N1 + 1 + 1 < k10_8 := by omega
            clear hbase hz lt_B0 lt_B1 lt_B2 lt_B3 lt_B4 lt_B5 lt_B6 lt_B7
            go_upto_region 11 with (fail)
            have lt_B0 : (w.heap.size) < W9.heap.size := B0.lt
            have lt_B1 : (w.heap.size + 1) < W9.heap.size := B1.lt
            have lt_B2 : (w.heap.size + 1 + 1) < W9.heap.size := B2.lt
            have lt_B3 : (w.heap.size + 1 + 1 + 1) < W9.heap.size := B3.lt
            have lt_B4 : (w.heap.size + 1 + 1 + 1 + 1) < W9.heap.size := B4.lt
            have lt_B5 : (N1) < W9.heap.size := B5.lt
            have lt_B6 : (N1 + 1) < W9.heap.size := B6.lt
            have lt_B7 : (N1 + 1 + 1) < W9.heap.size := B7.lt
            have lt_B8 : (k10_8) < W9.heap.size := B8.lt
            have hbase : w.heap.size ≤ W9.heap.size := hb.size
            refine wp_region_steps0 Try.mixed (by kernel_rfl) (by kernel_rfl) (fun v => by (simp only [frL, Act.put, List.setIfInBounds_toArray, List.set_cons_zero, List.set_cons_succ, Nat.reduceAdd, Nat.zero_add]; exact rfl))
              (fun L v W10 => Below w.heap.size w W10 ∧ W9.heap.size ≤ W10.heap.size ∧ Blk W10 (w.heap.size) 64 25 (resP n fa fm) ∧ Blk W10 (w.heap.size + 1) 64 25 (fm) ∧ Blk W10 (w.heap.size + 1 + 1) 64 25 (fb) ∧ Blk W10 (w.heap.size + 1 + 1 + 1) 64 25 (fn) ∧ (∃ g, Blk W10 (w.heap.size + 1 + 1 + 1 + 1) 64 25 (g)) ∧ (L 7 = false → Blk W10 (w.heap.size + 1 + 1 + 1 + 1) 64 25 (fun _ => 0)) ∧ (L 7 = true → Blk W10 (w.heap.size + 1 + 1 + 1 + 1) 64 25 (rfR n fa fm fb fn)) ∧ Blk W10 (N1) 64 25 (bzD n fm fn) ∧ Blk W10 (N1 + 1) 64 25 (bzU n fm fn) ∧ Blk W10 (N1 + 1 + 1) 64 25 (bzW n fm fn) ∧ Blk W10 (k10_8) 64 25 (rfT n fa fm fb fn) ∧ (L 0 = true → v 0 = (.int .i64 (n : Int))) ∧ (L 1 = true → v 1 = (.agg (bcells 64 (resP n fa fm)))) ∧ (L 2 = true → v 2 = (.int .i64 (n : Int))) ∧ (L 3 = true → v 3 = (.agg (bcells 64 (fm)))) ∧ (L 4 = true → v 4 = (.agg (bcells 64 (rfT n fa fm fb fn)))) ∧ (L 5 = true → v 5 = (.agg (bcells 64 (prd n fm (rfT n fa fm fb fn))))) ∧ (L 6 = true → v 6 = (.agg (bcells 64 (rfR n fa fm fb fn)))) ∧ (L 8 = true → v 8 = (.int .i64 0))) ?_ ?_ ?_
            · intro v hv0
              exact ⟨hb.drew, Nat.le_refl _, B0.drew, B1.drew, B2.drew, B3.drew, ⟨_, B4.drew⟩, (fun _ => B4.drew), (fun h => by cases h), B5.drew, B6.drew, B7.drew, B8.drew, (fun h => by cases h), (fun h => by cases h), (fun h => by cases h), (fun h => by cases h), (fun h => by cases h), (fun h => by cases h), (fun h => by cases h), (fun h => by cases h)⟩
            · refine (.cons rfl ?_ (.cons rfl ?_ (.cons rfl ?_ (.cons rfl ?_ (.cons rfl ?_ (.cons rfl ?_ (.cons rfl ?_ (.cons rfl ?_ (.cons rfl ?_ (.nil _))))))))))
              · intro L v W10 hd hn ⟨hB, hz, s0, s1, s2, s3, x4, q4, n4, s5, s6, s7, s8, h0, h1, h2, h3, h4, h5, h6, h8⟩ K hK
                go_wp2_with fail
                exact hK _ (.int .i64 (n : Int)) _ (by simp only [Act.put, List.setIfInBounds_toArray, List.set_cons_zero, List.set_cons_succ ]) ⟨hB, hz, s0, s1, s2, s3, x4, q4, n4, s5, s6, s7, s8, (fun _ => rfl), h1, h2, h3, h4, h5, h6, h8⟩
              · intro L v W10 hd hn ⟨hB, hz, s0, s1, s2, s3, x4, q4, n4, s5, s6, s7, s8, h0, h1, h2, h3, h4, h5, h6, h8⟩ K hK
                refine wp_load_any 25 _ rfl _ rfl 64 25 _ s0 _ Try.underlying25 rfl Try.size25 ?_
                exact hK _ _ _ rfl ⟨hB, hz, s0, s1, s2, s3, x4, q4, n4, s5, s6, s7, s8, h0, (fun _ => rfl), h2, h3, h4, h5, h6, h8⟩
              · intro L v W10 hd hn ⟨hB, hz, s0, s1, s2, s3, x4, q4, n4, s5, s6, s7, s8, h0, h1, h2, h3, h4, h5, h6, h8⟩ K hK
                go_wp2_with fail
                exact hK _ (.int .i64 (n : Int)) _ (by simp only [Act.put, List.setIfInBounds_toArray, List.set_cons_zero, List.set_cons_succ ]) ⟨hB, hz, s0, s1, s2, s3, x4, q4, n4, s5, s6, s7, s8, h0, h1, (fun _ => rfl), h3, h4, h5, h6, h8⟩
              · intro L v W10 hd hn ⟨hB, hz, s0, s1, s2, s3, x4, q4, n4, s5, s6, s7, s8, h0, h1, h2, h3, h4, h5, h6, h8⟩ K hK
                refine wp_load_any 25 _ rfl _ rfl 64 25 _ s1 _ Try.underlying25 rfl Try.size25 ?_
                exact hK _ _ _ rfl ⟨hB, hz, s0, s1, s2, s3, x4, q4, n4, s5, s6, s7, s8, h0, h1, h2, (fun _ => rfl), h4, h5, h6, h8⟩
              · intro L v W10 hd hn ⟨hB, hz, s0, s1, s2, s3, x4, q4, n4, s5, s6, s7, s8, h0, h1, h2, h3, h4, h5, h6, h8⟩ K hK
                refine wp_load_any 25 _ rfl _ rfl 64 25 _ s8 _ Try.underlying25 rfl Try.size25 ?_
                exact hK _ _ _ rfl ⟨hB, hz, s0, s1, s2, s3, x4, q4, n4, s5, s6, s7, s8, h0, h1, h2, h3, (fun _ => rfl), h5, h6, h8⟩
              · intro L v W10 hd hn ⟨hB, hz, s0, s1, s2, s3, x4, q4, n4, s5, s6, s7, s8, h0, h1, h2, h3, h4, h5, h6, h8⟩ K hK
                have e2 := h2 (hd ⟨2, .data⟩ (by simp) rfl)
                have e3 := h3 (hd ⟨3, .data⟩ (by simp) rfl)
                have e4 := h4 (hd ⟨4, .data⟩ (by simp) rfl)
                go_wp2_with (go_at_call 144; refine (HP.out _).mono ?_; rintro e wy ⟨rfl, hy⟩)
                exact hK _ (.agg (bcells 64 (prd n fm (rfT n fa fm fb fn)))) _ (by simp only [Act.put, List.setIfInBounds_toArray, List.set_cons_zero, List.set_cons_succ, e2, e3, e4]) ⟨hB.trans (hy.mono hB.size), (Nat.le_trans hz hy.size), (s0).below hy (s0).lt, (s1).below hy (s1).lt, (s2).below hy (s2).lt, (s3).below hy (s3).lt, (let ⟨g, h⟩ := x4; ⟨g, (h).below hy (h).lt⟩), (fun h => (q4 h).below hy (q4 h).lt), (fun h => (n4 h).below hy (n4 h).lt), (s5).below hy (s5).lt, (s6).below hy (s6).lt, (s7).below hy (s7).lt, (s8).below hy (s8).lt, h0, h1, h2, h3, h4, (fun _ => rfl), h6, h8⟩
              · intro L v W10 hd hn ⟨hB, hz, s0, s1, s2, s3, x4, q4, n4, s5, s6, s7, s8, h0, h1, h2, h3, h4, h5, h6, h8⟩ K hK
                have e0 := h0 (hd ⟨0, .data⟩ (by simp) rfl)
                have e1 := h1 (hd ⟨1, .data⟩ (by simp) rfl)
                have e5 := h5 (hd ⟨5, .data⟩ (by simp) rfl)
                go_wp2_with (go_at_call 149; refine (HS.out _).mono ?_; rintro e wy ⟨rfl, hy⟩)
                exact hK _ (.agg (bcells 64 (rfR n fa fm fb fn))) _ (by simp only [Act.put, List.setIfInBounds_toArray, List.set_cons_zero, List.set_cons_succ, e0, e1, e5]) ⟨hB.trans (hy.mono hB.size), (Nat.le_trans hz hy.size), (s0).below hy (s0).lt, (s1).below hy (s1).lt, (s2).below hy (s2).lt, (s3).below hy (s3).lt, (let ⟨g, h⟩ := x4; ⟨g, (h).below hy (h).lt⟩), (fun h => (q4 h).below hy (q4 h).lt), (fun h => (n4 h).below hy (n4 h).lt), (s5).below hy (s5).lt, (s6).below hy (s6).lt, (s7).below hy (s7).lt, (s8).below hy (s8).lt, h0, h1, h2, h3, h4, h5, (fun _ => rfl), h8⟩
              · intro L v W10 hd hn ⟨hB, hz, s0, s1, s2, s3, x4, q4, n4, s5, s6, s7, s8, h0, h1, h2, h3, h4, h5, h6, h8⟩ K hK
                have e6 := h6 (hd ⟨6, .data⟩ (by simp) rfl)
                obtain ⟨gz, hk⟩ := x4
                refine wp_store_blk 25 _ _ rfl _ 64 (rfR n fa fm fb fn) rfl e6 25 gz hk Try.size25 ?_
                exact hK _ undef _ rfl ⟨below_row hB (by omega) _, (by simpa [World.setRow] using hz), (s0).rowOther (by omega), (s1).rowOther (by omega), (s2).rowOther (by omega), (s3).rowOther (by omega), ⟨_, hk.row _⟩, (fun h => absurd h (by simp [setL])), (fun _ => hk.row _), (s5).rowOther (by omega), (s6).rowOther (by omega), (s7).rowOther (by omega), (s8).rowOther (by omega), h0, h1, h2, h3, h4, h5, h6, h8⟩
              · intro L v W10 hd hn ⟨hB, hz, s0, s1, s2, s3, x4, q4, n4, s5, s6, s7, s8, h0, h1, h2, h3, h4, h5, h6, h8⟩ K hK
                go_wp2_with fail
                exact hK _ (.int .i64 0) _ (by simp only [Act.put, List.setIfInBounds_toArray, List.set_cons_zero, List.set_cons_succ ]) ⟨hB, hz, s0, s1, s2, s3, x4, q4, n4, s5, s6, s7, s8, h0, h1, h2, h3, h4, h5, h6, (fun _ => rfl)⟩
            · intro L v W10 hL ⟨hB, hz, s0, s1, s2, s3, x4, q4, n4, s5, s6, s7, s8, h0, h1, h2, h3, h4, h5, h6, h8⟩
              have r4 := n4 (hL 7 (by decide))
              have e0 := h0 (hL 0 (by decide))
              have e1 := h1 (hL 1 (by decide))
              have e2 := h2 (hL 2 (by decide))
              have e3 := h3 (hL 3 (by decide))
              have e4 := h4 (hL 4 (by decide))
              have e5 := h5 (hL 5 (by decide))
              have e6 := h6 (hL 6 (by decide))
              have e8 := h8 (hL 8 (by decide))
              clear hL x4 q4 n4 h0 h1 h2 h3 h4 h5 h6 h8
              simp only [Exit.then, e0, e1, e2, e3, e4, e5, e6, e8]
              clear e0 e1 e2 e3 e4 e5 e6 e8
              clear B0
              have B0 := s0
              clear s0
              clear B1
              have B1 := s1
              clear s1
              clear B2
              have B2 := s2
              clear s2
              clear B3
              have B3 := s3
              clear s3
              clear B4
              have B4 := r4
              clear r4
              clear B5
              have B5 := s5
              clear s5
              clear B6
              have B6 := s6
              clear s6
              clear B7
              have B7 := s7
              clear s7
              clear B8
              have B8 := s8
              clear s8
              clear hb
              have hb := hB
              clear hB
              clear hbase hz lt_B0 lt_B1 lt_B2 lt_B3 lt_B4 lt_B5 lt_B6 lt_B7 lt_B8
              go_wp2_with fail
              refine bodyPost_ret (results_bt rfl _ _ _ 64 25 5 _ rfl B4 Try.underlying25 Try.size25) rfl ⟨by first | (rw [HV.out]; rfl) | rw [HV.out], hb⟩
  · have HV := Lib.hid (rfV_1 hc)
    rw [hc]
    clear hc
    go_upto_region 3 with (fail)
    have lt_B0 := B0.lt
    have lt_B1 := B1.lt
    have lt_B2 := B2.lt
    have lt_B3 := B3.lt
    have lt_B4 := B4.lt
    go_wp2_with (first | rw [← zero64] | (refine wpList_store_blk rfl 25 (.tmp 10) (.tmp 26) rfl _ 64 (fun _ => 0) rfl rfl 25 _ (B4) Try.size25 ?_; try simp only [Act.put]; go_wp2_with fail))
    have qB0 : Blk (W2.setRow (w.heap.size + 1 + 1 + 1 + 1) (bcells 64 (fun _ => 0))) (w.heap.size) 64 25 (fa) := (B0.rowOther (by omega))
    have qB1 : Blk (W2.setRow (w.heap.size + 1 + 1 + 1 + 1) (bcells 64 (fun _ => 0))) (w.heap.size + 1) 64 25 (fm) := (B1.rowOther (by omega))
    have qB2 : Blk (W2.setRow (w.heap.size + 1 + 1 + 1 + 1) (bcells 64 (fun _ => 0))) (w.heap.size + 1 + 1) 64 25 (fb) := (B2.rowOther (by omega))
    have qB3 : Blk (W2.setRow (w.heap.size + 1 + 1 + 1 + 1) (bcells 64 (fun _ => 0))) (w.heap.size + 1 + 1 + 1) 64 25 (fn) := (B3.rowOther (by omega))
    have qB4 : Blk (W2.setRow (w.heap.size + 1 + 1 + 1 + 1) (bcells 64 (fun _ => 0))) (w.heap.size + 1 + 1 + 1 + 1) 64 25 (fun _ => 0) := (B4.row (fun _ => 0))
    have qhb : Below w.heap.size w (W2.setRow (w.heap.size + 1 + 1 + 1 + 1) (bcells 64 (fun _ => 0))) := (below_row hb (by omega) _)
    obtain ⟨W3, hwo⟩ : ∃ v : World, v = (W2.setRow (w.heap.size + 1 + 1 + 1 + 1) (bcells 64 (fun _ => 0))) := ⟨_, rfl⟩
    rw [← hwo] at qB0 qB1 qB2 qB3 qB4 qhb ⊢
    clear hwo
    clear B0 B1 B2 B3 B4 hb
    have B0 := qB0
    have B1 := qB1
    have B2 := qB2
    have B3 := qB3
    have B4 := qB4
    have hb := qhb
    clear qB0 qB1 qB2 qB3 qB4 qhb
    try simp only [Act.put, List.setIfInBounds_toArray, List.set_cons_zero, List.set_cons_succ]
    refine bodyPost_ret (results_bt rfl _ _ _ 64 25 5 _ rfl B4 Try.underlying25 Try.size25) rfl ⟨by first | (rw [HV.out]; rfl) | rw [HV.out], hb⟩
end Go.Proofs.Ytkaaffccklkafaa
