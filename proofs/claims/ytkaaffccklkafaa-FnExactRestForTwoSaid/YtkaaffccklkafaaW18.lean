/-
  Walks: division behind its checks.
-/
import Derived.Test.YtkaaffccklkafaaW16
import Derived.Test.YtkaaffccklkafaaW17
import Derived.Test.YtkaaffccklkafaaEqb
namespace Go.Proofs.Ytkaaffccklkafaa
open Go.RowKit
set_option linter.unusedVariables false
set_option linter.unusedSimpArgs false
attribute [local irreducible] deg invN dS qS stp stpr quoP resP
theorem Try.noGuard25 : Try.prog.eqGuardType Try.prog.depth 25 = false := by kernel_rfl
theorem eqN_zero (f : Nat → Nat) : eqN 64 f (fun _ => 0) = decide (deg f < 0) := by
  by_cases h : deg f < 0
  · rw [eqN_iff.2 (deg_neg_iff.1 h)]; simp [h]
  · have : eqN 64 f (fun _ => 0) = false := by
      cases he : eqN 64 f (fun _ => 0) with
      | false => rfl
      | true => exact absurd (deg_neg_iff.2 (eqN_iff.1 he)) h
    rw [this]; simp [h]
theorem prime_of {n : Nat} {fs : List (Nat → Nat)} (h : codeL (n : Int) fs = 0) : n = 2 ∨ n = 3 ∨ n = 5 ∨ n = 7 := by
  rcases okP_cases (codeL_zero h).1 with h | h | h | h <;> omega
def dvdV (p : Int) (f g : Nat → Nat) : (Nat → Nat) × (Nat → Nat) × Int := if codeL p [f, g] = 0 then (if deg g < 0 then (fun _ => 0, fun _ => 0, 5) else (quoP p.toNat f g, resP p.toNat f g, 0)) else (fun _ => 0, fun _ => 0, 1)
theorem dvdV_ok {n : Nat} {f g : Nat → Nat} (h : codeL (n : Int) [f, g] = 0) (h2 : ¬ deg g < 0) : dvdV (n : Int) f g = (quoP n f g, resP n f g, 0) := by
  unfold dvdV; rw [if_pos h, if_neg h2]; rfl
theorem dvdV_zero {n : Nat} {f g : Nat → Nat} (h : codeL (n : Int) [f, g] = 0) (h2 : deg g < 0) : dvdV (n : Int) f g = (fun _ => 0, fun _ => 0, 5) := by
  unfold dvdV; rw [if_pos h, if_pos h2]
theorem dvdV_bad {p : Int} {f g : Nat → Nat} (h : codeL p [f, g] = 1) : dvdV p f g = (fun _ => 0, fun _ => 0, 1) := by
  unfold dvdV; rw [if_neg (by rw [h]; decide)]
set_option maxRecDepth 100000 in
set_option maxHeartbeats 3200000 in
theorem impl_DividePolys_any (p : Int) (f g : Nat → Nat) (hf : byte f) (hg : byte g) (w : World) :
    Calls Try.prog 40 #[.int .i64 p, .agg (bcells 64 f), .agg (bcells 64 g)] w fun e w' => e = .returned (.tuple #[.agg (bcells 64 (dvdV p f g).1), .agg (bcells 64 (dvdV p f g).2.1), .int .i64 (dvdV p f g).2.2]) ∧ Below w.heap.size w w' := by
  have hgd := Try.noGuard25
  go_enter Try.func40, Try.ntmps40
  go_upto_region 1 with (fail)
  obtain ⟨wo, hwo⟩ : ∃ wo : World, wo = ((((w.alloc (.cells (bcells 64 f) 25)).alloc (.cells (bcells 64 g) 25)).alloc (.cells (bcells 64 fun _ => 0) 25)).alloc (.cells (bcells 64 fun _ => 0) 25)) := ⟨_, rfl⟩
  have b0 : Blk wo (w.heap.size) 64 25 f := by subst hwo; have := ((((Blk.new w 64 25 f).alloc (.cells (bcells 64 g) 25)).alloc (.cells (bcells 64 fun _ => 0) 25)).alloc (.cells (bcells 64 fun _ => 0) 25)); simpa using this
  have b1 : Blk wo (w.heap.size + 1) 64 25 g := by subst hwo; have := (((Blk.new (w.alloc (.cells (bcells 64 f) 25)) 64 25 g).alloc (.cells (bcells 64 fun _ => 0) 25)).alloc (.cells (bcells 64 fun _ => 0) 25)); simpa using this
  have b2 : Blk wo (w.heap.size + 1 + 1) 64 25 (fun _ => 0) := by subst hwo; have := ((Blk.new ((w.alloc (.cells (bcells 64 f) 25)).alloc (.cells (bcells 64 g) 25)) 64 25 (fun _ => 0)).alloc (.cells (bcells 64 fun _ => 0) 25)); simpa using this
  have b3 : Blk wo (w.heap.size + 1 + 1 + 1) 64 25 (fun _ => 0) := by subst hwo; have := (Blk.new (((w.alloc (.cells (bcells 64 f) 25)).alloc (.cells (bcells 64 g) 25)).alloc (.cells (bcells 64 fun _ => 0) 25)) 64 25 (fun _ => 0)); simpa using this
  have hb : Below w.heap.size w wo := by subst hwo; exact (((((Below.refl _ _).alloc (Nat.le_refl _) _).alloc (by simp) _).alloc (by simp; omega) _).alloc (by simp; omega) _)
  rw [← zero64, ← hwo]
  clear hwo
  go_upto_region 2 with (first | refine wpList_load_blk rfl 25 _ rfl _ rfl 64 25 _ (b0) 5 Try.underlying25 Try.size25 ?_ | refine wpList_load_blk rfl 25 _ rfl _ rfl 64 25 _ (b1) 5 Try.underlying25 Try.size25 ?_ | (refine wpList_build_polys rfl 57 _ [f, g] rfl 25 rfl Try.underlying57 Try.elem25 (by simp) (by simp) rfl ?_; intro wa hwa hps hba; clear hwa) | (go_at_call 142; refine (checkPolys_any p [f, g] (by simp [hf, hg]) _ _ hps (by simp)).mono ?_; rintro e wb ⟨rfl, hbb⟩))
  have hB : Below wo.heap.size wo wb := hba.trans (hbb.mono hba.size)
  replace b0 := b0.below hB b0.lt
  replace b1 := b1.below hB b1.lt
  replace b2 := b2.below hB b2.lt
  replace b3 := b3.below hB b3.lt
  replace hb := hb.trans (hB.mono hb.size)
  clear hB hba hbb hps
  rcases codeL_two p [f, g] with hc | hc
  · obtain ⟨n, hn, n2, n7⟩ := okP_nat (codeL_zero hc).1
    subst hn
    have lf := lt_of_code hc (f := f) (by simp)
    have lg := lt_of_code hc (f := g) (by simp)
    have hpr := prime_of hc
    by_cases hz : deg g < 0
    · have HV := Lib.hid (dvdV_zero hc hz)
      have heq := fun W => run_equalIn_bytes (P := Try.prog) W 9998 25 5 64 g (fun _ => 0) Try.underlying25 Try.underlying5 Try.size5
      rw [eqN_zero, show decide (deg g < 0) = true by simp [hz]] at heq
      simp only [zero64] at heq
      rw [hc]
      clear hc
      go_wp2_with (first | refine wpList_load_blk rfl 25 _ rfl _ rfl 64 25 _ (b1) 5 Try.underlying25 Try.size25 ?_ | refine wpList_store_blk rfl 25 _ _ rfl _ 64 (fun _ => 0) rfl (congrArg Value.agg zero64.symm) 25 _ (b2) Try.size25 ?_ | refine wpList_store_blk rfl 25 _ _ rfl _ 64 (fun _ => 0) rfl (congrArg Value.agg zero64.symm) 25 _ (b3.rowOther (by omega)) Try.size25 ?_)
      refine bodyPost_ret (results_bbt rfl _ _ _ 64 25 5 _ _ 64 25 5 _ rfl ((b2.row _).rowOther (by omega)) Try.underlying25 Try.size25 rfl ((b3.rowOther (by omega)).row _) Try.underlying25 Try.size25) rfl ⟨by rw [HV.out]; rfl, below_setRow (below_setRow hb (by omega) _) (by omega) _⟩
    · have HV := Lib.hid (dvdV_ok hc hz)
      have heq := fun W => run_equalIn_bytes (P := Try.prog) W 9998 25 5 64 g (fun _ => 0) Try.underlying25 Try.underlying5 Try.size5
      rw [eqN_zero, show decide (deg g < 0) = false by simp [hz]] at heq
      simp only [zero64] at heq
      rw [hc]
      clear hc
      have HL := Lib.hid (fun W => quotientAndRest_any n f g W hpr lf lg (by omega))
      have hx10 : ∀ w1 : World, Blk ((w1.alloc (.cells (bcells 64 fun _ => 0) 25)).alloc (.cells (bcells 64 fun _ => 0) 25)) (w1.heap.size + 1) 64 25 (fun _ => 0) := fun w1 => by
        have := Blk.new (w1.alloc (.cells (bcells 64 fun _ => 0) 25)) 64 25 (fun _ => 0)
        simpa using this
      have HX := Lib.hid hx10
      clear hx10
      have ha : Below wb.heap.size wb wb := Below.refl _ _
      go_upto_region 7 with (first | refine wpList_load_blk rfl 25 _ rfl _ rfl 64 25 _ (b0.below (by assumption) b0.lt) 5 Try.underlying25 Try.size25 ?_ | refine wpList_load_blk rfl 25 _ rfl _ rfl 64 25 _ (b1.below (by assumption) b1.lt) 5 Try.underlying25 Try.size25 ?_ | (go_at_call 150; refine (acc (HL.out _) (by assumption)).mono ?_; rintro e w1 ⟨rfl, h1, ha⟩) | (rw [← zero64]; refine wpList_store_blk rfl 25 _ _ rfl _ 64 (quoP n f g) rfl rfl 25 _ ((Blk.new w1 64 25 (fun _ => 0)).alloc _) Try.size25 ?_) | (refine wpList_store_blk rfl 25 _ _ rfl _ 64 (resP n f g) rfl rfl 25 _ ((HX.out w1).rowOther (by omega)) Try.size25 ?_))
      have a9 := (((Blk.new w1 64 25 (fun _ => 0)).alloc (.cells (bcells 64 fun _ => 0) 25)).row (quoP n f g)).rowOther (k := w1.heap.size + 1) (cs := bcells 64 (resP n f g)) (by omega)
      have a10 := ((HX.out w1).rowOther (k := w1.heap.size) (cs := bcells 64 (quoP n f g)) (by omega)).row (resP n f g)
      have hb4 := below_row (below_row (((Below.refl w1.heap.size w1).alloc (Nat.le_refl _) (.cells (bcells 64 fun _ => 0) 25)).alloc (by simp) (.cells (bcells 64 fun _ => 0) 25)) (Nat.le_refl _) (bcells 64 (quoP n f g))) (show w1.heap.size ≤ w1.heap.size + 1 by omega) (bcells 64 (resP n f g))
      obtain ⟨w4, hw4⟩ : ∃ w4 : World, w4 = (((w1.alloc (.cells (bcells 64 fun _ => 0) 25)).alloc (.cells (bcells 64 fun _ => 0) 25)).setRow w1.heap.size (bcells 64 (quoP n f g))).setRow (w1.heap.size + 1) (bcells 64 (resP n f g)) := ⟨_, rfl⟩
      rw [← hw4] at a9 a10 hb4 ⊢
      clear hw4
      replace b2 := b2.below ha b2.lt
      replace b3 := b3.below ha b3.lt
      have hl3 := b3.lt
      replace b2 := b2.below hb4 b2.lt
      replace b3 := b3.below hb4 b3.lt
      replace hb := (hb.trans (ha.mono hb.size))
      replace hb := hb.trans (hb4.mono hb.size)
      obtain ⟨n9, hn9⟩ : ∃ n9, n9 = w1.heap.size := ⟨_, rfl⟩
      rw [← hn9] at a9 a10 hl3 ⊢
      clear hn9 hb4 ha h1 b1 b0
      have lt_a9 : (n9) < w4.heap.size := a9.lt
      have lt_a10 : (n9 + 1) < w4.heap.size := a10.lt
      have lt_b2 : (w.heap.size + 1 + 1) < w4.heap.size := b2.lt
      have lt_b3 : (w.heap.size + 1 + 1 + 1) < w4.heap.size := b3.lt
      have hbase : w.heap.size ≤ w4.heap.size := hb.size
      refine wp_region_steps0 Try.mixed (by kernel_rfl) (by kernel_rfl) (fun v => by (simp only [frL, Act.put, List.setIfInBounds_toArray, List.set_cons_zero, List.set_cons_succ, Nat.reduceAdd, Nat.zero_add]; exact rfl))
        (fun L v wx => Below w.heap.size w wx ∧ w4.heap.size ≤ wx.heap.size ∧ Blk wx (n9) 64 25 (quoP n f g) ∧ Blk wx (n9 + 1) 64 25 (resP n f g) ∧ (∃ g, Blk wx (w.heap.size + 1 + 1) 64 25 (g)) ∧ (L 2 = false → Blk wx (w.heap.size + 1 + 1) 64 25 (fun _ => 0)) ∧ (L 2 = true → Blk wx (w.heap.size + 1 + 1) 64 25 (quoP n f g)) ∧ (∃ g, Blk wx (w.heap.size + 1 + 1 + 1) 64 25 (g)) ∧ (L 3 = false → Blk wx (w.heap.size + 1 + 1 + 1) 64 25 (fun _ => 0)) ∧ (L 3 = true → Blk wx (w.heap.size + 1 + 1 + 1) 64 25 (resP n f g)) ∧ (L 0 = true → v 0 = (.agg (bcells 64 (quoP n f g)))) ∧ (L 1 = true → v 1 = (.agg (bcells 64 (resP n f g)))) ∧ (L 4 = true → v 4 = (.int .i64 0))) ?_ ?_ ?_
      · intro v hv0
        exact ⟨hb.drew, Nat.le_refl _, a9.drew, a10.drew, ⟨_, b2.drew⟩, (fun _ => b2.drew), (fun h => by cases h), ⟨_, b3.drew⟩, (fun _ => b3.drew), (fun h => by cases h), (fun h => by cases h), (fun h => by cases h), (fun h => by cases h)⟩
      · refine (.cons rfl ?_ (.cons rfl ?_ (.cons rfl ?_ (.cons rfl ?_ (.cons rfl ?_ (.nil _))))))
        · intro L v wx hd hn ⟨hB, hz, s0, s1, x2, q2, n2, x3, q3, n3, h0, h1, h4⟩ K hK
          refine wp_load_blk 25 _ rfl _ rfl 64 25 _ s0 _ Try.underlying25 Try.size25 ?_
          exact hK _ _ _ rfl ⟨hB, hz, s0, s1, x2, q2, n2, x3, q3, n3, (fun _ => rfl), h1, h4⟩
        · intro L v wx hd hn ⟨hB, hz, s0, s1, x2, q2, n2, x3, q3, n3, h0, h1, h4⟩ K hK
          refine wp_load_blk 25 _ rfl _ rfl 64 25 _ s1 _ Try.underlying25 Try.size25 ?_
          exact hK _ _ _ rfl ⟨hB, hz, s0, s1, x2, q2, n2, x3, q3, n3, h0, (fun _ => rfl), h4⟩
        · intro L v wx hd hn ⟨hB, hz, s0, s1, x2, q2, n2, x3, q3, n3, h0, h1, h4⟩ K hK
          have e0 := h0 (hd ⟨0, .data⟩ (by simp) rfl)
          obtain ⟨gz, hk⟩ := x2
          refine wp_store_blk 25 _ _ rfl _ 64 (quoP n f g) rfl e0 25 gz hk Try.size25 ?_
          exact hK _ undef _ rfl ⟨below_row hB (by omega) _, (by simpa [World.setRow] using hz), (s0).rowOther (by omega), (s1).rowOther (by omega), ⟨_, hk.row _⟩, (fun h => absurd h (by simp [setL])), (fun _ => hk.row _), (let ⟨g, h⟩ := x3; ⟨g, (h).rowOther (by omega)⟩), (fun h => (q3 h).rowOther (by omega)), (fun h => (n3 h).rowOther (by omega)), h0, h1, h4⟩
        · intro L v wx hd hn ⟨hB, hz, s0, s1, x2, q2, n2, x3, q3, n3, h0, h1, h4⟩ K hK
          have e1 := h1 (hd ⟨1, .data⟩ (by simp) rfl)
          obtain ⟨gz, hk⟩ := x3
          refine wp_store_blk 25 _ _ rfl _ 64 (resP n f g) rfl e1 25 gz hk Try.size25 ?_
          exact hK _ undef _ rfl ⟨below_row hB (by omega) _, (by simpa [World.setRow] using hz), (s0).rowOther (by omega), (s1).rowOther (by omega), (let ⟨g, h⟩ := x2; ⟨g, (h).rowOther (by omega)⟩), (fun h => (q2 h).rowOther (by omega)), (fun h => (n2 h).rowOther (by omega)), ⟨_, hk.row _⟩, (fun h => absurd h (by simp [setL])), (fun _ => hk.row _), h0, h1, h4⟩
        · intro L v wx hd hn ⟨hB, hz, s0, s1, x2, q2, n2, x3, q3, n3, h0, h1, h4⟩ K hK
          go_wp2_with fail
          exact hK _ (.int .i64 0) _ (by simp only [Act.put, List.setIfInBounds_toArray, List.set_cons_zero, List.set_cons_succ ]) ⟨hB, hz, s0, s1, x2, q2, n2, x3, q3, n3, h0, h1, (fun _ => rfl)⟩
      · intro L v wx hL ⟨hB, hz, s0, s1, x2, q2, n2, x3, q3, n3, h0, h1, h4⟩
        have r2 := n2 (hL 2 (by decide))
        have r3 := n3 (hL 3 (by decide))
        have e0 := h0 (hL 0 (by decide))
        have e1 := h1 (hL 1 (by decide))
        have e4 := h4 (hL 4 (by decide))
        clear hL x2 q2 n2 x3 q3 n3 h0 h1 h4
        simp only [Exit.then, e0, e1, e4]
        clear e0 e1 e4
        go_wp2_with fail
        refine bodyPost_ret (results_bbt rfl _ _ _ 64 25 5 _ _ 64 25 5 _ rfl r2 Try.underlying25 Try.size25 rfl r3 Try.underlying25 Try.size25) rfl ⟨by rw [HV.out]; rfl, hB⟩
  · have HV := Lib.hid (dvdV_bad hc)
    rw [hc]
    clear hc
    go_wp2_with (first | refine wpList_store_blk rfl 25 _ _ rfl _ 64 (fun _ => 0) rfl (congrArg Value.agg zero64.symm) 25 _ (b2) Try.size25 ?_ | refine wpList_store_blk rfl 25 _ _ rfl _ 64 (fun _ => 0) rfl (congrArg Value.agg zero64.symm) 25 _ (b3.rowOther (by omega)) Try.size25 ?_)
    refine bodyPost_ret (results_bbt rfl _ _ _ 64 25 5 _ _ 64 25 5 _ rfl ((b2.row _).rowOther (by omega)) Try.underlying25 Try.size25 rfl ((b3.rowOther (by omega)).row _) Try.underlying25 Try.size25) rfl ⟨by rw [HV.out]; rfl, below_setRow (below_setRow hb (by omega) _) (by omega) _⟩
set_option maxRecDepth 100000 in
set_option maxHeartbeats 3200000 in
theorem spec_DividePolys_any (p : Int) (f g : Nat → Nat) (hf : byte f) (hg : byte g) (w : World) :
    Calls Try.prog 41 #[.int .i64 p, .agg (bcells 64 f), .agg (bcells 64 g)] w fun e w' => e = .returned (.tuple #[.agg (bcells 64 (dvdV p f g).1), .agg (bcells 64 (dvdV p f g).2.1), .int .i64 (dvdV p f g).2.2]) ∧ Below w.heap.size w w' := by
  have hgd := Try.noGuard25
  go_enter Try.func41, Try.ntmps41
  go_upto_region 1 with (fail)
  obtain ⟨wo, hwo⟩ : ∃ wo : World, wo = ((((w.alloc (.cells (bcells 64 f) 25)).alloc (.cells (bcells 64 g) 25)).alloc (.cells (bcells 64 fun _ => 0) 25)).alloc (.cells (bcells 64 fun _ => 0) 25)) := ⟨_, rfl⟩
  have b0 : Blk wo (w.heap.size) 64 25 f := by subst hwo; have := ((((Blk.new w 64 25 f).alloc (.cells (bcells 64 g) 25)).alloc (.cells (bcells 64 fun _ => 0) 25)).alloc (.cells (bcells 64 fun _ => 0) 25)); simpa using this
  have b1 : Blk wo (w.heap.size + 1) 64 25 g := by subst hwo; have := (((Blk.new (w.alloc (.cells (bcells 64 f) 25)) 64 25 g).alloc (.cells (bcells 64 fun _ => 0) 25)).alloc (.cells (bcells 64 fun _ => 0) 25)); simpa using this
  have b2 : Blk wo (w.heap.size + 1 + 1) 64 25 (fun _ => 0) := by subst hwo; have := ((Blk.new ((w.alloc (.cells (bcells 64 f) 25)).alloc (.cells (bcells 64 g) 25)) 64 25 (fun _ => 0)).alloc (.cells (bcells 64 fun _ => 0) 25)); simpa using this
  have b3 : Blk wo (w.heap.size + 1 + 1 + 1) 64 25 (fun _ => 0) := by subst hwo; have := (Blk.new (((w.alloc (.cells (bcells 64 f) 25)).alloc (.cells (bcells 64 g) 25)).alloc (.cells (bcells 64 fun _ => 0) 25)) 64 25 (fun _ => 0)); simpa using this
  have hb : Below w.heap.size w wo := by subst hwo; exact (((((Below.refl _ _).alloc (Nat.le_refl _) _).alloc (by simp) _).alloc (by simp; omega) _).alloc (by simp; omega) _)
  rw [← zero64, ← hwo]
  clear hwo
  go_upto_region 2 with (first | refine wpList_load_blk rfl 25 _ rfl _ rfl 64 25 _ (b0) 5 Try.underlying25 Try.size25 ?_ | refine wpList_load_blk rfl 25 _ rfl _ rfl 64 25 _ (b1) 5 Try.underlying25 Try.size25 ?_ | (refine wpList_build_polys rfl 57 _ [f, g] rfl 25 rfl Try.underlying57 Try.elem25 (by simp) (by simp) rfl ?_; intro wa hwa hps hba; clear hwa) | (go_at_call 145; refine (l01Code_any p [f, g] (by simp [hf, hg]) _ _ hps (by simp)).mono ?_; rintro e wb ⟨rfl, hbb⟩))
  have hB : Below wo.heap.size wo wb := hba.trans (hbb.mono hba.size)
  replace b0 := b0.below hB b0.lt
  replace b1 := b1.below hB b1.lt
  replace b2 := b2.below hB b2.lt
  replace b3 := b3.below hB b3.lt
  replace hb := hb.trans (hB.mono hb.size)
  clear hB hba hbb hps
  rcases codeL_two p [f, g] with hc | hc
  · obtain ⟨n, hn, n2, n7⟩ := okP_nat (codeL_zero hc).1
    subst hn
    have lf := lt_of_code hc (f := f) (by simp)
    have lg := lt_of_code hc (f := g) (by simp)
    have hpr := prime_of hc
    by_cases hz : deg g < 0
    · have HV := Lib.hid (dvdV_zero hc hz)
      rw [hc]
      clear hc
      have ha : Below wb.heap.size wb wb := Below.refl _ _
      go_wp2_with (first | refine wpList_load_blk rfl 25 _ rfl _ rfl 64 25 _ (b1.below (by assumption) b1.lt) 5 Try.underlying25 Try.size25 ?_ | refine wpList_load_blk_g rfl 25 _ rfl _ rfl 64 25 _ (b1.below (by assumption) b1.lt) 5 Try.underlying25 Try.size25 ?_ | (go_at_call 151; refine (acc (l01Deg_any _ _) (by assumption)).mono ?_; rintro e wc ⟨rfl, hx, ha⟩) | refine wpList_store_blk rfl 25 _ _ rfl _ 64 (fun _ => 0) rfl (congrArg Value.agg zero64.symm) 25 _ (b2.below (by assumption) b2.lt) Try.size25 ?_ | refine wpList_store_blk rfl 25 _ _ rfl _ 64 (fun _ => 0) rfl (congrArg Value.agg zero64.symm) 25 _ ((b3.below (by assumption) b3.lt).rowOther (by omega)) Try.size25 ?_)
      refine bodyPost_ret (results_bbt rfl _ _ _ 64 25 5 _ _ 64 25 5 _ rfl (((b2.below ha b2.lt).row _).rowOther (by omega)) Try.underlying25 Try.size25 rfl (((b3.below ha b3.lt).rowOther (by omega)).row _) Try.underlying25 Try.size25) rfl ⟨by rw [HV.out]; rfl, below_setRow (below_setRow (hb.trans (ha.mono hb.size)) (by omega) _) (by omega) _⟩
    · have HV := Lib.hid (dvdV_ok hc hz)
      rw [hc]
      clear hc
      have HL := Lib.hid (fun W => l01Divide_any n f g W hpr lf lg (by omega))
      have hx10 : ∀ w1 : World, Blk ((w1.alloc (.cells (bcells 64 fun _ => 0) 25)).alloc (.cells (bcells 64 fun _ => 0) 25)) (w1.heap.size + 1) 64 25 (fun _ => 0) := fun w1 => by
        have := Blk.new (w1.alloc (.cells (bcells 64 fun _ => 0) 25)) 64 25 (fun _ => 0)
        simpa using this
      have HX := Lib.hid hx10
      clear hx10
      have ha : Below wb.heap.size wb wb := Below.refl _ _
      go_upto_region 7 with (first | refine wpList_load_blk rfl 25 _ rfl _ rfl 64 25 _ (b0.below (by assumption) b0.lt) 5 Try.underlying25 Try.size25 ?_ | refine wpList_load_blk rfl 25 _ rfl _ rfl 64 25 _ (b1.below (by assumption) b1.lt) 5 Try.underlying25 Try.size25 ?_ | refine wpList_load_blk_g rfl 25 _ rfl _ rfl 64 25 _ (b1.below (by assumption) b1.lt) 5 Try.underlying25 Try.size25 ?_ | (go_at_call 151; refine (acc (l01Deg_any _ _) (by assumption)).mono ?_; rintro e wc ⟨rfl, hx, ha⟩) | (go_at_call 152; refine (acc (HL.out _) (by assumption)).mono ?_; rintro e w1 ⟨rfl, h1, ha⟩) | (rw [← zero64]; refine wpList_store_blk rfl 25 _ _ rfl _ 64 (quoP n f g) rfl rfl 25 _ ((Blk.new w1 64 25 (fun _ => 0)).alloc _) Try.size25 ?_) | (refine wpList_store_blk rfl 25 _ _ rfl _ 64 (resP n f g) rfl rfl 25 _ ((HX.out w1).rowOther (by omega)) Try.size25 ?_))
      have a9 := (((Blk.new w1 64 25 (fun _ => 0)).alloc (.cells (bcells 64 fun _ => 0) 25)).row (quoP n f g)).rowOther (k := w1.heap.size + 1) (cs := bcells 64 (resP n f g)) (by omega)
      have a10 := ((HX.out w1).rowOther (k := w1.heap.size) (cs := bcells 64 (quoP n f g)) (by omega)).row (resP n f g)
      have hb4 := below_row (below_row (((Below.refl w1.heap.size w1).alloc (Nat.le_refl _) (.cells (bcells 64 fun _ => 0) 25)).alloc (by simp) (.cells (bcells 64 fun _ => 0) 25)) (Nat.le_refl _) (bcells 64 (quoP n f g))) (show w1.heap.size ≤ w1.heap.size + 1 by omega) (bcells 64 (resP n f g))
      obtain ⟨w4, hw4⟩ : ∃ w4 : World, w4 = (((w1.alloc (.cells (bcells 64 fun _ => 0) 25)).alloc (.cells (bcells 64 fun _ => 0) 25)).setRow w1.heap.size (bcells 64 (quoP n f g))).setRow (w1.heap.size + 1) (bcells 64 (resP n f g)) := ⟨_, rfl⟩
      rw [← hw4] at a9 a10 hb4 ⊢
      clear hw4
      replace b2 := b2.below ha b2.lt
      replace b3 := b3.below ha b3.lt
      have hl3 := b3.lt
      replace b2 := b2.below hb4 b2.lt
      replace b3 := b3.below hb4 b3.lt
      replace hb := (hb.trans (ha.mono hb.size))
      replace hb := hb.trans (hb4.mono hb.size)
      obtain ⟨n9, hn9⟩ : ∃ n9, n9 = w1.heap.size := ⟨_, rfl⟩
      rw [← hn9] at a9 a10 hl3 ⊢
      clear hn9 hb4 ha h1 b1 b0
      have lt_a9 : (n9) < w4.heap.size := a9.lt
      have lt_a10 : (n9 + 1) < w4.heap.size := a10.lt
      have lt_b2 : (w.heap.size + 1 + 1) < w4.heap.size := b2.lt
      have lt_b3 : (w.heap.size + 1 + 1 + 1) < w4.heap.size := b3.lt
      have hbase : w.heap.size ≤ w4.heap.size := hb.size
      refine wp_region_steps0 Try.mixed (by kernel_rfl) (by kernel_rfl) (fun v => by (simp only [frL, Act.put, List.setIfInBounds_toArray, List.set_cons_zero, List.set_cons_succ, Nat.reduceAdd, Nat.zero_add]; exact rfl))
        (fun L v wx => Below w.heap.size w wx ∧ w4.heap.size ≤ wx.heap.size ∧ Blk wx (n9) 64 25 (quoP n f g) ∧ Blk wx (n9 + 1) 64 25 (resP n f g) ∧ (∃ g, Blk wx (w.heap.size + 1 + 1) 64 25 (g)) ∧ (L 2 = false → Blk wx (w.heap.size + 1 + 1) 64 25 (fun _ => 0)) ∧ (L 2 = true → Blk wx (w.heap.size + 1 + 1) 64 25 (quoP n f g)) ∧ (∃ g, Blk wx (w.heap.size + 1 + 1 + 1) 64 25 (g)) ∧ (L 3 = false → Blk wx (w.heap.size + 1 + 1 + 1) 64 25 (fun _ => 0)) ∧ (L 3 = true → Blk wx (w.heap.size + 1 + 1 + 1) 64 25 (resP n f g)) ∧ (L 0 = true → v 0 = (.agg (bcells 64 (quoP n f g)))) ∧ (L 1 = true → v 1 = (.agg (bcells 64 (resP n f g)))) ∧ (L 4 = true → v 4 = (.int .i64 0))) ?_ ?_ ?_
      · intro v hv0
        exact ⟨hb.drew, Nat.le_refl _, a9.drew, a10.drew, ⟨_, b2.drew⟩, (fun _ => b2.drew), (fun h => by cases h), ⟨_, b3.drew⟩, (fun _ => b3.drew), (fun h => by cases h), (fun h => by cases h), (fun h => by cases h), (fun h => by cases h)⟩
      · refine (.cons rfl ?_ (.cons rfl ?_ (.cons rfl ?_ (.cons rfl ?_ (.cons rfl ?_ (.nil _))))))
        · intro L v wx hd hn ⟨hB, hz, s0, s1, x2, q2, n2, x3, q3, n3, h0, h1, h4⟩ K hK
          refine wp_load_blk 25 _ rfl _ rfl 64 25 _ s0 _ Try.underlying25 Try.size25 ?_
          exact hK _ _ _ rfl ⟨hB, hz, s0, s1, x2, q2, n2, x3, q3, n3, (fun _ => rfl), h1, h4⟩
        · intro L v wx hd hn ⟨hB, hz, s0, s1, x2, q2, n2, x3, q3, n3, h0, h1, h4⟩ K hK
          refine wp_load_blk 25 _ rfl _ rfl 64 25 _ s1 _ Try.underlying25 Try.size25 ?_
          exact hK _ _ _ rfl ⟨hB, hz, s0, s1, x2, q2, n2, x3, q3, n3, h0, (fun _ => rfl), h4⟩
        · intro L v wx hd hn ⟨hB, hz, s0, s1, x2, q2, n2, x3, q3, n3, h0, h1, h4⟩ K hK
          have e0 := h0 (hd ⟨0, .data⟩ (by simp) rfl)
          obtain ⟨gz, hk⟩ := x2
          refine wp_store_blk 25 _ _ rfl _ 64 (quoP n f g) rfl e0 25 gz hk Try.size25 ?_
          exact hK _ undef _ rfl ⟨below_row hB (by omega) _, (by simpa [World.setRow] using hz), (s0).rowOther (by omega), (s1).rowOther (by omega), ⟨_, hk.row _⟩, (fun h => absurd h (by simp [setL])), (fun _ => hk.row _), (let ⟨g, h⟩ := x3; ⟨g, (h).rowOther (by omega)⟩), (fun h => (q3 h).rowOther (by omega)), (fun h => (n3 h).rowOther (by omega)), h0, h1, h4⟩
        · intro L v wx hd hn ⟨hB, hz, s0, s1, x2, q2, n2, x3, q3, n3, h0, h1, h4⟩ K hK
          have e1 := h1 (hd ⟨1, .data⟩ (by simp) rfl)
          obtain ⟨gz, hk⟩ := x3
          refine wp_store_blk 25 _ _ rfl _ 64 (resP n f g) rfl e1 25 gz hk Try.size25 ?_
          exact hK _ undef _ rfl ⟨below_row hB (by omega) _, (by simpa [World.setRow] using hz), (s0).rowOther (by omega), (s1).rowOther (by omega), (let ⟨g, h⟩ := x2; ⟨g, (h).rowOther (by omega)⟩), (fun h => (q2 h).rowOther (by omega)), (fun h => (n2 h).rowOther (by omega)), ⟨_, hk.row _⟩, (fun h => absurd h (by simp [setL])), (fun _ => hk.row _), h0, h1, h4⟩
        · intro L v wx hd hn ⟨hB, hz, s0, s1, x2, q2, n2, x3, q3, n3, h0, h1, h4⟩ K hK
          go_wp2_with fail
          exact hK _ (.int .i64 0) _ (by simp only [Act.put, List.setIfInBounds_toArray, List.set_cons_zero, List.set_cons_succ ]) ⟨hB, hz, s0, s1, x2, q2, n2, x3, q3, n3, h0, h1, (fun _ => rfl)⟩
      · intro L v wx hL ⟨hB, hz, s0, s1, x2, q2, n2, x3, q3, n3, h0, h1, h4⟩
        have r2 := n2 (hL 2 (by decide))
        have r3 := n3 (hL 3 (by decide))
        have e0 := h0 (hL 0 (by decide))
        have e1 := h1 (hL 1 (by decide))
        have e4 := h4 (hL 4 (by decide))
        clear hL x2 q2 n2 x3 q3 n3 h0 h1 h4
        simp only [Exit.then, e0, e1, e4]
        clear e0 e1 e4
        go_wp2_with fail
        refine bodyPost_ret (results_bbt rfl _ _ _ 64 25 5 _ _ 64 25 5 _ rfl r2 Try.underlying25 Try.size25 rfl r3 Try.underlying25 Try.size25) rfl ⟨by rw [HV.out]; rfl, hB⟩
  · have HV := Lib.hid (dvdV_bad hc)
    rw [hc]
    clear hc
    go_wp2_with (first | refine wpList_store_blk rfl 25 _ _ rfl _ 64 (fun _ => 0) rfl (congrArg Value.agg zero64.symm) 25 _ (b2) Try.size25 ?_ | refine wpList_store_blk rfl 25 _ _ rfl _ 64 (fun _ => 0) rfl (congrArg Value.agg zero64.symm) 25 _ (b3.rowOther (by omega)) Try.size25 ?_)
    refine bodyPost_ret (results_bbt rfl _ _ _ 64 25 5 _ _ 64 25 5 _ rfl ((b2.row _).rowOther (by omega)) Try.underlying25 Try.size25 rfl ((b3.rowOther (by omega)).row _) Try.underlying25 Try.size25) rfl ⟨by rw [HV.out]; rfl, below_setRow (below_setRow hb (by omega) _) (by omega) _⟩
end Go.Proofs.Ytkaaffccklkafaa
